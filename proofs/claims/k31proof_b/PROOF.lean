import PyProof.Rows.All
import Wide.All
import OpenK.AllK
import Wide.FinOn
import HandS.ForMost
import HandS.IsInst
import HandS.Walk
import PyProof.AutoSeq1
import HandS.DictComp
import HandS.Property
import HandS.OwnEq
import HandS.MakeKwOnly
import HandS.ClsMeth
import HandS.Star
import PyProof.InstNe
import HandS.FStr
import HandS.Small
import PyProof.ReprRoads
import PyProof.ReprLen
import PyProof.EqLayable
import HandS.SetFor
import HandS.Strs
import HandS.SortOrd
import HandS.Zip
import KE.SortData
import HandS.RaiseMore
import HandS.Ends
import HandS.WideBits
import HandS.Conv
import HandS.Style
import PySem.Challenge.RW_oneshelf_k31_whole_trees_told
set_option Elab.async false
set_option linter.all false
set_option maxRecDepth 100000
/-! data in the abstract heap, apart from a set of addresses that are still worked on -/
namespace Kh
open PySem PySem.Spec PyProof.Rows L2

/-! ### heaps -/
theorem same_new {H : Hp} {p : Addr} {o : HO} (h : H p = none) : Same H (upd H p o) := fun b x e => by
  rw [upd_ne (ne_of_none e h)]; exact e
theorem sup {H H1 : Hp} {p : Addr} {o : HO} (x : Same H H1) (h : H1 p = none) : Same H (upd H1 p o) := x.trans (same_new h)
/-- an object that H doesn't know may change -/
theorem smut {H H1 : Hp} {p : Addr} {o : HO} (x : Same H H1) (h : H p = none) : Same H (upd H1 p o) := fun b u e => by
  rw [upd_ne (ne_of_none e h)]; exact x b u e
theorem same_t {K : PySem.W.Frag} {H H' : Hp} {a : Addr} {xs : List V} (e : Same H H') (h : SqT K H a xs) : SqT K H' a xs := by
  rcases h with (h | ⟨o, h⟩) | h
  · exact .inl (.inl (e _ _ h))
  · exact .inl (.inr ⟨o, e _ _ h⟩)
  · exact .inr h
theorem some_ne {H : Hp} {a : Addr} {o : HO} (h : H a = some o) : H a ≠ none := by rw [h]; exact fun z => nomatch z
theorem same_ne {H H' : Hp} (e : Same H H') {a : Addr} (h : H a ≠ none) : H' a ≠ none := by
  cases q : H a with
  | none => exact (h q).elim
  | some o => rw [e a o q]; exact fun z => nomatch z
theorem sqL {K : PySem.W.Frag} {H : Hp} {a : Addr} {xs : List V} (h : H a = some (.lst xs)) : SqL K H a xs := .inl (.inl h)
theorem sqT {K : PySem.W.Frag} {H : Hp} {a : Addr} {xs : List V} (h : H a = some (.tup xs)) : SqT K H a xs := .inl (.inl h)

mutual
theorem dp_same {K : PySem.W.Frag} {H H' : Hp} (e : Same H H') : ∀ (d : PyData) (v : V), Dp K H v d → Dp K H' v d
  | .none, _, h => by cases h; exact .non
  | .bool b, _, h => by cases h; exact .bl b
  | .int i, _, h => by cases h; exact .int i
  | .str x, _, h => by cases h; exact .str x
  | .list ds, _, h => by
    cases h with
    | lst hs ha => exact .lst (e.seq hs) (dpa_same e ds _ ha)
  | .tuple ds, _, h => by
    cases h with
    | tup hs ha => exact .tup (same_t e hs) (dpa_same e ds _ ha)
  | .dict _, _, h => by cases h
theorem dpa_same {K : PySem.W.Frag} {H H' : Hp} (e : Same H H') : ∀ (ds : List PyData) (vs : List V), DpAll K H vs ds → DpAll K H' vs ds
  | [], _, h => by cases h; exact .nil
  | d :: ds, _, h => by
    cases h with
    | cons h1 h2 => exact .cons (dp_same e d _ h1) (dpa_same e ds _ h2)
end
theorem dpa_len {K : PySem.W.Frag} {H : Hp} : ∀ {vs : List V} {ds : List PyData}, DpAll K H vs ds → vs.length = ds.length
  | _, _, .nil => rfl
  | _, _, .cons _ t => by rw [List.length_cons, List.length_cons, dpa_len t]
theorem dpa_get {K : PySem.W.Frag} {H : Hp} : ∀ {vs : List V} {ds : List PyData} {i : Nat} {d : PyData}, DpAll K H vs ds → ds[i]? = some d → ∃ v, vs[i]? = some v ∧ Dp K H v d
  | _, _, _, _, .nil, e => by simp at e
  | _, _, 0, d, .cons (v := v) h _, e => by simp at e; subst e; exact ⟨v, by simp, h⟩
  | _, _, i + 1, d, .cons _ t, e => by
    obtain ⟨v, h1, h2⟩ := dpa_get (i := i) t (by simpa using e)
    exact ⟨v, by simpa using h1, h2⟩
theorem dpa_at {K : PySem.W.Frag} {H : Hp} : ∀ {vs : List V} {ds : List PyData} {i : Nat} {v : V}, DpAll K H vs ds → vs[i]? = some v → ∃ d, ds[i]? = some d ∧ Dp K H v d
  | _, _, _, _, .nil, e => by simp at e
  | _, _, 0, v, .cons (d := d) h _, e => by simp at e; subst e; exact ⟨d, by simp, h⟩
  | _, _, i + 1, v, .cons _ t, e => by
    obtain ⟨d, h1, h2⟩ := dpa_at (i := i) t (by simpa using e)
    exact ⟨d, by simpa using h1, h2⟩
theorem dpa_app {K : PySem.W.Frag} {H : Hp} : ∀ {vs ws : List V} {ds es : List PyData}, DpAll K H vs ds → DpAll K H ws es → DpAll K H (vs ++ ws) (ds ++ es)
  | _, _, _, _, .nil, t => t
  | _, _, _, _, .cons h s, t => .cons h (dpa_app s t)
theorem dpa_of {K : PySem.W.Frag} {H : Hp} : ∀ {vs : List V} {ds : List PyData}, vs.length = ds.length → (∀ (i : Nat) v d, vs[i]? = some v → ds[i]? = some d → Dp K H v d) → DpAll K H vs ds
  | [], [], _, _ => .nil
  | v :: vs, d :: ds, l, h => .cons (h 0 v d rfl rfl) (dpa_of (by simpa using l) fun i a b h1 h2 => h (i + 1) a b (by simpa using h1) (by simpa using h2))
  | [], _ :: _, l, _ => by simp at l
  | _ :: _, [], l, _ => by simp at l

/-! ### the heap without some addresses -/
open Classical in
noncomputable def off (S : Addr → Prop) (H : Hp) : Hp := fun a => if S a then none else H a
/-- all of S is known -/
def Kn (S : Addr → Prop) (H : Hp) : Prop := ∀ a, S a → H a ≠ none
theorem off_out {S : Addr → Prop} {H : Hp} {a : Addr} (h : ¬ S a) : off S H a = H a := by unfold off; rw [if_neg h]
theorem off_in {S : Addr → Prop} {H : Hp} {a : Addr} (h : S a) : off S H a = none := by unfold off; rw [if_pos h]
theorem off_some {S : Addr → Prop} {H : Hp} {a : Addr} {o : HO} (h : off S H a = some o) : ¬ S a ∧ H a = some o := by
  by_cases q : S a
  · rw [off_in q] at h; cases h
  · rw [off_out q] at h; exact ⟨q, h⟩
theorem off_sub {S : Addr → Prop} {H : Hp} : Same (off S H) H := fun _ _ e => (off_some e).2
theorem off_same {S : Addr → Prop} {H H' : Hp} (e : Same H H') : Same (off S H) (off S H') := fun a o h => by
  obtain ⟨n, h⟩ := off_some h
  rw [off_out n]; exact e a o h
theorem off_less {S S' : Addr → Prop} {H : Hp} (h : ∀ a, S a → S' a) : Same (off S' H) (off S H) := fun a o e => by
  obtain ⟨n, e⟩ := off_some e
  rw [off_out fun z => n (h a z)]; exact e
theorem off_mut {S : Addr → Prop} {H : Hp} {a : Addr} {o : HO} (h : S a) : off S (upd H a o) = off S H := by
  funext b
  by_cases q : S b
  · rw [off_in q, off_in q]
  · rw [off_out q, off_out q, upd_ne]; rintro rfl; exact q h
theorem Kn.same {S : Addr → Prop} {H H' : Hp} (k : Kn S H) (e : Same H H') : Kn S H' := fun a h => same_ne e (k a h)
theorem Kn.new {S : Addr → Prop} {H : Hp} (k : Kn S H) {a : Addr} (h : H a = none) : ¬ S a := fun z => k a z h
theorem Kn.upd {S : Addr → Prop} {H : Hp} (k : Kn S H) {a : Addr} {o : HO} : Kn S (upd H a o) := fun b h => by
  by_cases q : b = a
  · subst q; rw [upd_same]; exact fun z => nomatch z
  · rw [upd_ne q]; exact k b h
/-- one more -/
def plus (S : Addr → Prop) (a : Addr) : Addr → Prop := fun b => S b ∨ b = a
theorem Kn.plus {S : Addr → Prop} {H : Hp} (k : Kn S H) {a : Addr} (h : H a ≠ none) : Kn (plus S a) H := fun b z => by
  rcases z with z | rfl
  · exact k b z
  · exact h
def noS : Addr → Prop := fun _ => False
theorem kn_no {H : Hp} : Kn noS H := fun _ h => h.elim
theorem off_no {H : Hp} : off noS H = H := by funext a; exact off_out fun h => h.elim
end Kh

set_option maxRecDepth 100000
set_option maxHeartbeats 1000000
/-! comprehensions read as wholes; calls of defs that only make new things -/
namespace Kh
open PySem PySem.Spec PyProof.Rows L2

/-- either way of walking -/
theorem pi_or {X : Cx} {tg e : Expr} {w1 w2 : TI} (h1 : PI X tg e w1) (h2 : PI X tg e w2) : PI X tg e (fun σ H R => w1 σ H R ∨ w2 σ H R) :=
  ⟨fun pins s σ H R I h => h.elim (h1.run pins s σ H R I) (h2.run pins s σ H R I)⟩
theorem pe_alt {X : Cx} {e : Expr} {t u : TE} (h1 : PE X e t) (h2 : PE X e u) : PE X e (fun σ H Q => t σ H Q ∨ u σ H Q) :=
  ⟨fun pins s σ H Q I h => h.elim (h1.run pins s σ H Q I) (h2.run pins s σ H Q I)⟩
/-- a list or a tuple -/
theorem pi_any {X : Cx} {tg e : Expr} {t : TE} (h : PE X e t) : PI X tg e (fun σ H R => iList X.K t σ H R ∨ iTup X.K t σ H R) := pi_or (pi_list h) (pi_tup h)

/-- grown but for what stands at D -/
def SameBut (D : Addr) (H H' : Hp) : Prop := ∀ b o, b ≠ D → H b = some o → H' b = some o
theorem sbut {D : Addr} {H H' : Hp} (e : Same H H') : SameBut D H H' := fun b o _ h => e b o h
theorem bmut {D : Addr} {H H' : Hp} {o : HO} (e : SameBut D H H') : SameBut D H (upd H' D o) := fun b u n h => by rw [upd_ne n]; exact e b u n h
theorem off_but {S : Addr → Prop} {D : Addr} {H H' : Hp} (e : SameBut D H H') : Same (off (plus S D) H) (off (plus S D) H') := fun b o h => by
  obtain ⟨n, h⟩ := off_some h
  rw [off_out n]
  exact e b o (fun z => n (.inr z)) h

theorem paired_app {α β : Type} {F : α → β → Prop} : ∀ {l l2 : List α} {m m2 : List β}, Paired F l m → Paired F l2 m2 → Paired F (l ++ l2) (m ++ m2)
  | _, _, _, _, .nil, q => q
  | _, _, _, _, .cons r t, q => .cons r (paired_app t q)
section
variable {J : It} {n : Nat} {G : Hp → Prop} {Y : Nat → Hp → V → Hp → Prop} {te : TE} {tt : TT} {sl : Nat} {vs : List Nat} {σ : L2.St} {H1 : Hp} {D : Addr} {Qd : Hp → Prop}

theorem lc_filt (w : Walk J n G Y) (Xp : Nat → V → Prop) (hY : ∀ i H x H', i < n → Y i H x H' → H' = H ∧ Xp i x) (pt : Nat → Bool) (P : Nat → V → Hp → Prop)
    (hG : ∀ H, Same H1 H → G H) (hD : H1 D = none) (hn : n ≤ 100000) (hw : ∀ x, wipe ((wipe σ vs).set sl (some x)) vs = wipe σ vs)
    (hP : ∀ j y H H', SameBut D H H' → P j y H → P j y H')
    (test : ∀ j x H, j < n → Xp j x → Same H1 H → H D ≠ none → ∀ Q : Bool → Hp → Prop, (∀ H', Same H H' → Q (pt j) H') → tt ((wipe σ vs).set sl (some x)) H Q)
    (body : ∀ j x H, j < n → Xp j x → pt j = true → Same H1 H → H D ≠ none → ∀ Q : VK, (∀ y H', Same H H' → P j y H' → Q y H') → te ((wipe σ vs).set sl (some x)) H Q)
    (done : ∀ ys H, Paired (fun j y => P j y H) ((List.range n).filter pt) ys → Same H1 H → H D = some (.lst ys) → Qd H) :
    ∃ W : Nat → Nat → Hp → Prop, (∃ m, W 0 m (upd H1 D (.lst []))) ∧ ∀ i m H, W i m H →
      (J.stop i H ∧ Qd H) ∨ (J.go i H ∧ ∃ Nx : Hp → Prop, (∀ H', Nx H' → ∃ m', m' < m ∧ W (i + 1) m' H') ∧ ∀ x H', J.yld i H x H' → gName sl x (wipe σ vs) H' fun σ2 H2 => wipe σ2 vs = wipe σ vs ∧ tt σ2 H2 fun b H3 =>
        if b = true then te σ2 H3 fun y H4 => ∃ acc, H4 D = some (.lst acc) ∧ acc.length < sizeLine ∧ Nx (upd H4 D (.lst (acc ++ [y]))) else Nx H3) := by
  have mono : ∀ {l : List Nat} {ys : List V} {H H' : Hp}, SameBut D H H' → Paired (fun j y => P j y H) l ys → Paired (fun j y => P j y H') l ys := fun e p => Paired.mapP p fun a b q => hP a b _ _ e q
  have lenP : ∀ {l : List Nat} {ys : List V} {H : Hp}, Paired (fun j y => P j y H) l ys → l.length = ys.length := fun p => Paired.length p
  refine lc_it w (Pv := fun i H => ∃ ys, Paired (fun j y => P j y H) ((List.range i).filter pt) ys ∧ Same H1 H ∧ H D = some (.lst ys)) ⟨[], .nil, same_new hD, upd_same⟩ (fun i H _ ⟨_, _, s, _⟩ => hG H s) ?_ ?_
  · rintro i x H H' hi ⟨ys, py, s, hd⟩ y
    obtain ⟨rfl, xp⟩ := hY i H x H' hi y
    refine ⟨hw x, test i x H' hi xp s (some_ne hd) _ fun H2 s2 => ?_⟩
    have e : (List.range (i + 1)).filter pt = (List.range i).filter pt ++ (if pt i then [i] else []) := by
      rw [List.range_succ, List.filter_append]
      congr 1
      cases q : pt i <;> simp [q]
    cases hb : pt i with
    | true =>
      refine iteT (body i x H2 hi xp hb (s.trans s2) (some_ne (s2 _ _ hd)) _ fun z H3 s3 pz => ?_)
      have h3 := s3 _ _ (s2 _ _ hd)
      have hl : ys.length ≤ i := by
        rw [← lenP py]
        exact Nat.le_trans (List.length_filter_le _ _) (by simp)
      refine ⟨ys, h3, Nat.lt_of_le_of_lt (show ys.length ≤ 100000 by omega) (by decide), ys ++ [z], ?_, smut ((s.trans s2).trans s3) hD, upd_same⟩
      rw [e, hb]
      exact paired_app (mono ((bmut (sbut (s2.trans s3)))) py) (.cons (hP _ _ _ _ ((bmut (sbut (Same.refl _)))) pz) .nil)
    | false =>
      refine iteF ⟨ys, ?_, s.trans s2, s2 _ _ hd⟩
      rw [e, hb]
      simpa using mono (sbut s2) py
  · rintro H ⟨ys, py, s, hd⟩
    exact done ys H py s hd

theorem lc_map (w : Walk J n G Y) (Xp : Nat → V → Prop) (hY : ∀ i H x H', i < n → Y i H x H' → H' = H ∧ Xp i x) (P : Nat → V → Hp → Prop)
    (hG : ∀ H, Same H1 H → G H) (hD : H1 D = none) (hn : n ≤ 100000) (hw : ∀ x, wipe ((wipe σ vs).set sl (some x)) vs = wipe σ vs)
    (hP : ∀ j y H H', SameBut D H H' → P j y H → P j y H')
    (body : ∀ j x H, j < n → Xp j x → Same H1 H → H D ≠ none → ∀ Q : VK, (∀ y H', Same H H' → P j y H' → Q y H') → te ((wipe σ vs).set sl (some x)) H Q)
    (done : ∀ ys H, ys.length = n → (∀ j y, ys[j]? = some y → P j y H) → Same H1 H → H D = some (.lst ys) → Qd H) :
    ∃ W : Nat → Nat → Hp → Prop, (∃ m, W 0 m (upd H1 D (.lst []))) ∧ ∀ i m H, W i m H →
      (J.stop i H ∧ Qd H) ∨ (J.go i H ∧ ∃ Nx : Hp → Prop, (∀ H', Nx H' → ∃ m', m' < m ∧ W (i + 1) m' H') ∧ ∀ x H', J.yld i H x H' → gName sl x (wipe σ vs) H' fun σ2 H2 => wipe σ2 vs = wipe σ vs ∧ tYes σ2 H2 fun b H3 =>
        if b = true then te σ2 H3 fun y H4 => ∃ acc, H4 D = some (.lst acc) ∧ acc.length < sizeLine ∧ Nx (upd H4 D (.lst (acc ++ [y]))) else Nx H3) := by
  refine lc_it w (Pv := fun i H => ∃ ys, ys.length = i ∧ (∀ j y, ys[j]? = some y → P j y H) ∧ Same H1 H ∧ H D = some (.lst ys)) ⟨[], rfl, fun j y h => by simp at h, same_new hD, upd_same⟩ (fun i H _ ⟨_, _, _, s, _⟩ => hG H s) ?_ ?_
  · rintro i x H H' hi ⟨ys, hl, py, s, hd⟩ y
    obtain ⟨rfl, xp⟩ := hY i H x H' hi y
    refine ⟨hw x, iteT (B := Exists fun zs : List V => zs.length = i + 1 ∧ (∀ (j : Nat) (y : V), zs[j]? = some y → P j y H') ∧ Same H1 H' ∧ H' D = some (HO.lst zs)) ?_⟩
    refine body i x H' hi xp s (some_ne hd) _ fun z H3 s3 pz => ⟨ys, s3 _ _ hd, Nat.lt_of_le_of_lt (show ys.length ≤ 100000 by omega) (by decide), ys ++ [z], by simp [hl], fun j u hj => ?_, smut (s.trans s3) hD, upd_same⟩
    by_cases q : j < ys.length
    · rw [List.getElem?_append_left q] at hj
      exact hP _ _ _ _ ((bmut (sbut s3))) (py j u hj)
    · rw [List.getElem?_append_right (by omega)] at hj
      have e : j = i := by
        by_cases q2 : j - ys.length = 0
        · omega
        · rw [List.getElem?_eq_none_iff.mpr (by simp; omega)] at hj
          cases hj
      subst e
      rw [show j - ys.length = 0 by omega] at hj
      cases hj
      exact hP _ _ _ _ ((bmut (sbut (Same.refl _)))) pz
  · rintro H ⟨ys, hl, py, s, hd⟩
    exact done ys H hl py s hd
end

/-! ### promises over data -/
/-- a def of data that makes new data: of x, under pre, f x; what is in S stays out of it -/
def spP {α : Type} (K : PySem.W.Frag) (enc : α → List PyData) (pre : α → Prop) (f : α → PyData) : Sp := fun vs H Q _ => ∃ (S : Addr → Prop) (x : α), Kn S H ∧ DpAll K (off S H) vs (enc x) ∧ pre x ∧
  ∀ v H', Same H H' → Dp K (off S H') v (f x) → Q v H'
section
variable {α : Type} {K : PySem.W.Frag} {enc : α → List PyData} {pre : α → Prop} {f : α → PyData} {vs : List V} {H : Hp} {Q : VK} {E : XK}
theorem spP_len {n : Nat} (hn : ∀ x, (enc x).length = n) (h : spP K enc pre f vs H Q E) : vs.length = n := by
  obtain ⟨S, x, _, hd, _⟩ := h
  rw [← hn x]; exact dpa_len hd
/-- it is called, the answer flat -/
theorem spP_bl {b : Bool} {H0 : Hp} (e : Same H0 H) (x : α) (hd : DpAll K H0 vs (enc x)) (hp : pre x) (hf : f x = .bool b) (q : ∀ H', Same H H' → Q (.bl b) H') : spP K enc pre f vs H Q E := ⟨noS, x, kn_no, by rw [off_no]; exact dpa_same e _ _ hd, hp, fun v H' s h => by
  rw [hf] at h; cases h; exact q H' s⟩
theorem spP_int {b : Int} {H0 : Hp} (e : Same H0 H) (x : α) (hd : DpAll K H0 vs (enc x)) (hp : pre x) (hf : f x = .int b) (q : ∀ H', Same H H' → Q (.int b) H') : spP K enc pre f vs H Q E := ⟨noS, x, kn_no, by rw [off_no]; exact dpa_same e _ _ hd, hp, fun v H' s h => by
  rw [hf] at h; cases h; exact q H' s⟩
end
def d1 (d : PyData) : List PyData := [d]

/-! ### kinds of data -/
def tyN : PyData → String
  | .none => "NoneType"
  | .bool _ => "bool"
  | .int _ => "int"
  | .str _ => "str"
  | .list _ => "list"
  | .tuple _ => "tuple"
  | .dict _ => "dict"
end Kh

set_option maxRecDepth 100000
set_option maxHeartbeats 1000000
/-! operations on data -/
namespace Kh
open PySem PySem.Spec PyProof.Rows L2

theorem sq_ty {K : PySem.W.Frag} {H : Hp} {a : Addr} {xs : List V} (h : SqL K H a xs) : TyX K H (.ref a) (.type "list") := by
  rcases h with (h | ⟨o, h⟩) | ⟨o, its, n, h1, h2, _⟩
  · exact .base (.lst h)
  · exact .base (.frz h)
  · exact .kList h1 h2
theorem sqt_ty {K : PySem.W.Frag} {H : Hp} {a : Addr} {xs : List V} (h : SqT K H a xs) : TyX K H (.ref a) (.type "tuple") := by
  rcases h with (h | ⟨o, h⟩) | ⟨o, its, n, h1, h2, _⟩
  · exact .base (.tup h)
  · exact .fTuple h
  · exact .kTuple h1 h2
theorem tyx_d {K : PySem.W.Frag} {H : Hp} {v : V} {d : PyData} (h : Dp K H v d) : TyX K H v (.type (tyN d)) := by
  cases h with
  | non => exact .base .non
  | bl b => exact .base (.bl b)
  | int i => exact .base (.int i)
  | str x => exact .base (.str x)
  | lst hs _ => exact sq_ty hs
  | tup hs _ => exact sqt_ty hs
/-- isinstance(x, T) of data -/
theorem isi_d {K : PySem.W.Frag} {H0 H : Hp} {v : V} {d : PyData} {n : String} {b : Bool} {Q : VK} (e : Same H0 H) (h : Dp K H0 v d) (hk : kitB (tyN d) n = some b) (q : Q (.bl b) H) : rIsi K [v, .ty n] H Q :=
  ⟨v, .ty n, _, _, b, rfl, .ty n, tyx_d (dp_same e _ _ h), kit_ty hk, q⟩
theorem isi2_d {K : PySem.W.Frag} {H0 H : Hp} {v : V} {d : PyData} {n m : String} {b c : Bool} {Q : VK} {p : Addr} (e : Same H0 H) (h : Dp K H0 v d) (hp : H p = some (.tup [.ty n, .ty m])) (hk : kitB (tyN d) n = some b) (hc : kitB (tyN d) m = some c) (q : Q (.bl (b || c)) H) : rIsiT K [v, .ref p] H Q := by
  refine ⟨v, p, [.ty n, .ty m], .type (tyN d), [.type n, .type m], b || c, rfl, hp, .cons (.ty n) (.cons (.ty m) .nil), tyx_d (dp_same e _ _ h), ?_, q⟩
  refine kitAny_cons (kit_ty hk) (fun hb => ?_) (fun hb => by rw [hb]; rfl)
  refine kitAny_cons (kit_ty hc) (fun hd => ?_) (fun hd => by rw [hd]; cases b <;> rfl)
  rw [hb, hd]; exact kitAny_nil

/-- what a list or a tuple has -/
def items : PyData → Option (List PyData)
  | .list ds => some ds
  | .tuple ds => some ds
  | _ => none
theorem items_at {K : PySem.W.Frag} {H : Hp} {v : V} {d : PyData} {ds : List PyData} (h : Dp K H v d) (e : items d = some ds) : ∃ a xs, v = .ref a ∧ (SqL K H a xs ∨ SqT K H a xs) ∧ DpAll K H xs ds := by
  cases h with
  | non => cases e
  | bl b => cases e
  | int i => cases e
  | str x => cases e
  | lst hs ha => cases e; exact ⟨_, _, rfl, .inl hs, ha⟩
  | tup hs ha => cases e; exact ⟨_, _, rfl, .inr hs, ha⟩
theorem list_at {K : PySem.W.Frag} {H : Hp} {v : V} {ds : List PyData} (h : Dp K H v (.list ds)) : ∃ a xs, v = .ref a ∧ SqL K H a xs ∧ DpAll K H xs ds := by
  cases h with
  | lst hs ha => exact ⟨_, _, rfl, hs, ha⟩
theorem tup_at {K : PySem.W.Frag} {H : Hp} {v : V} {ds : List PyData} (h : Dp K H v (.tuple ds)) : ∃ a xs, v = .ref a ∧ SqT K H a xs ∧ DpAll K H xs ds := by
  cases h with
  | tup hs ha => exact ⟨_, _, rfl, hs, ha⟩
/-- x[i] of data, i written -/
theorem ix_d {K : PySem.W.Frag} {H0 H : Hp} {v : V} {d x : PyData} {ds : List PyData} {i : Nat} {Q : VK} (e : Same H0 H) (h : Dp K H0 v d) (hd : items d = some ds) (hi : ds[i]? = some x) (q : ∀ u, Dp K H0 u x → Q u H) : rIx K v (.int (i : Nat)) H Q := by
  obtain ⟨a, xs, rfl, hs, ha⟩ := items_at h hd
  obtain ⟨u, hu, du⟩ := dpa_get ha hi
  rcases hs with hs | hs
  · exact .inl ⟨a, xs, i, u, rfl, rfl, e.seq hs, atI_nat hu, q u du⟩
  · exact .inr (.inl ⟨a, xs, i, u, rfl, rfl, same_t e hs, atI_nat hu, q u du⟩)
def rLen (K : PySem.W.Frag) : List V → Hp → VK → Prop := fun xs H Q => ∃ p ys, xs = [.ref p] ∧ (SqL K H p ys ∨ SqT K H p ys) ∧ Q (.int ys.length) H
theorem len_d {K : PySem.W.Frag} {H0 H : Hp} {v : V} {d : PyData} {ds : List PyData} {Q : VK} (e : Same H0 H) (h : Dp K H0 v d) (hd : items d = some ds) (q : Q (.int (ds.length : Nat)) H) : rLen K [v] H Q := by
  obtain ⟨a, xs, rfl, hs, ha⟩ := items_at h hd
  refine ⟨a, xs, rfl, hs.imp (fun z => e.seq z) (fun z => same_t e z), ?_⟩
  rw [dpa_len ha]; exact q

/-! ### whole numbers -/
def iD (n : Nat) : PyData := .int n
theorem dpa_ints {K : PySem.W.Frag} {H : Hp} : ∀ {ns : List Int} {vs : List V}, DpAll K H vs (ns.map PyData.int) → vs = ns.map V.int
  | [], _, h => by cases h; rfl
  | n :: ns, _, h => by
    cases h with
    | cons h1 h2 => cases h1; rw [dpa_ints h2]; rfl
theorem ints_dpa {K : PySem.W.Frag} {H : Hp} : ∀ ns : List Int, DpAll K H (ns.map V.int) (ns.map PyData.int)
  | [] => .nil
  | n :: ns => .cons (.int n) (ints_dpa ns)
theorem flat_ints : ∀ ns : List Int, (ns.map V.int).all flatV = true
  | [] => rfl
  | n :: ns => by rw [List.map_cons, List.all_cons, flat_ints ns]; rfl
theorem inV_ints (n : Int) : ∀ ns : List Int, inV (.int n) (ns.map V.int) = decide (n ∈ ns)
  | [] => by simp [inV]
  | m :: ns => by
    have ih := inV_ints n ns
    unfold inV at ih ⊢
    rw [List.map_cons, List.any_cons, ih]
    show ((m == n) || decide (n ∈ ns)) = decide (n ∈ m :: ns)
    by_cases q : m = n
    · subst q; simp
    · have q2 : ¬ n = m := fun z => q z.symm
      rw [show (m == n) = false from beq_eq_false_iff_ne.mpr q]
      simp [q2]
/-- n in xs, n not in xs -/
theorem in_d {K : PySem.W.Frag} {H0 H : Hp} {v : V} {d : PyData} {ns : List Int} {n : Int} {Q : VK} {neg : Bool} (e : Same H0 H) (h : Dp K H0 v d) (hd : items d = some (ns.map PyData.int)) (q : Q (.bl (if neg then !decide (n ∈ ns) else decide (n ∈ ns))) H) : rIn K neg (.int n) v H Q := by
  obtain ⟨a, xs, rfl, hs, ha⟩ := items_at h hd
  have ex := dpa_ints ha
  subst ex
  refine ⟨a, _, rfl, hs.imp (fun z => e.seq z) (fun z => same_t e z), rfl, flat_ints ns, ?_⟩
  rw [inV_ints]; exact q

/-! ### built-ins by names of their own -/
section
variable {X : Cx}
theorem call_lenR : CallR X (.builtin "len") (rLen X.K) := call_len_seq
def rTupOf (K : PySem.W.Frag) : List V → Hp → VK → Prop := fun xs H Q => ∃ p ys, xs = [.ref p] ∧ ((SqL K H p ys ∧ ∀ l, H l = none → Q (.ref l) (upd H l (.tup ys))) ∨ (SqT K H p ys ∧ Q (.ref p) H))
theorem call_tupR : CallR X (.type "tuple") (rTupOf X.K) := call_tuple_of
def rListOf (K : PySem.W.Frag) : List V → Hp → VK → Prop := fun xs H Q => ∃ p ys, xs = [.ref p] ∧ (SqL K H p ys ∨ SqT K H p ys) ∧ ∀ l, H l = none → Q (.ref l) (upd H l (.lst ys))
theorem call_listR : CallR X (.type "list") (rListOf X.K) := call_list_of
def rAbs : List V → Hp → VK → Prop := fun xs H Q => ∃ i, xs = [.int i] ∧ Q (.int (if i < 0 then -i else i)) H
theorem call_absR : CallR X (.builtin "abs") rAbs := call_abs
def rMax2 : List V → Hp → VK → Prop := fun xs H Q => ∃ i j, xs = [.int i, .int j] ∧ Q (.int (if j > i then j else i)) H
theorem call_max2R (hc : X.calm = true) : CallR X (.builtin "max") rMax2 := call_max2 hc
def rMin2 : List V → Hp → VK → Prop := fun xs H Q => ∃ i j, xs = [.int i, .int j] ∧ Q (.int (if j < i then j else i)) H
theorem call_min2R (hc : X.calm = true) : CallR X (.builtin "min") rMin2 := call_min2 hc
def rInt1 : List V → Hp → VK → Prop := fun xs H Q => (∃ i, xs = [.int i] ∧ Q (.int i) H) ∨ ∃ k, xs = [.bl k] ∧ Q (.int (if k then 1 else 0)) H
theorem call_int1R : CallR X (.type "int") rInt1 := call_int1
end
theorem dpa_bools {K : PySem.W.Frag} {H : Hp} : ∀ {ns : List Bool} {vs : List V}, DpAll K H vs (ns.map PyData.bool) → vs = ns.map V.bl
  | [], _, h => by cases h; rfl
  | n :: ns, _, h => by
    cases h with
    | cons h1 h2 => cases h1; rw [dpa_bools h2]; rfl
theorem all_d {K : PySem.W.Frag} {H0 H : Hp} {v : V} {bs : List Bool} {Q : VK} (e : Same H0 H) (h : Dp K H0 v (.list (bs.map PyData.bool))) (q : Q (.bl (bs.all id)) H) : rAll K [v] H Q := by
  obtain ⟨a, xs, rfl, hs, ha⟩ := list_at h
  have ex := dpa_bools ha
  subst ex
  exact ⟨a, bs, rfl, e.seq hs, q⟩
theorem any_d {K : PySem.W.Frag} {H0 H : Hp} {v : V} {bs : List Bool} {Q : VK} (e : Same H0 H) (h : Dp K H0 v (.list (bs.map PyData.bool))) (q : Q (.bl (bs.any id)) H) : rAny K [v] H Q := by
  obtain ⟨a, xs, rfl, hs, ha⟩ := list_at h
  have ex := dpa_bools ha
  subst ex
  exact ⟨a, bs, rfl, e.seq hs, q⟩
theorem max_d {K : PySem.W.Frag} {H0 H : Hp} {v : V} {ns : List Int} {Q : VK} (e : Same H0 H) (h : Dp K H0 v (.list (ns.map PyData.int))) (hn : 0 < ns.length) (q : ∀ m, m ∈ ns → (∀ y, y ∈ ns → y ≤ m) → Q (.int m) H) : rMax K [v] H Q := by
  obtain ⟨a, xs, rfl, hs, ha⟩ := list_at h
  have ex := dpa_ints ha
  subst ex
  exact ⟨a, ns, rfl, e.seq hs, hn, q⟩
theorem tup_d {K : PySem.W.Frag} {S : Addr → Prop} {H : Hp} {v : V} {d : PyData} {ds : List PyData} {Q : VK} (kn : Kn S H) (h : Dp K (off S H) v d) (hd : items d = some ds) (q : ∀ u H', Same H H' → Dp K (off S H') u (.tuple ds) → Q u H') : rTupOf K [v] H Q := by
  cases h with
  | non => cases hd
  | bl b => cases hd
  | int i => cases hd
  | str x => cases hd
  | lst hs ha =>
    cases hd
    exact ⟨_, _, rfl, .inl ⟨off_sub.seq hs, fun l hl => q _ _ (same_new hl) (.tup (sqT (by rw [off_out (kn.new hl)]; exact upd_same)) (dpa_same (off_same (same_new hl)) _ _ ha))⟩⟩
  | tup hs ha =>
    cases hd
    exact ⟨_, _, rfl, .inr ⟨same_t off_sub hs, q _ _ (Same.refl H) (.tup hs ha)⟩⟩
theorem list_d {K : PySem.W.Frag} {S : Addr → Prop} {H : Hp} {v : V} {d : PyData} {ds : List PyData} {Q : VK} (kn : Kn S H) (h : Dp K (off S H) v d) (hd : items d = some ds) (q : ∀ l xs, H l = none → DpAll K (off S H) xs ds → Dp K (off S (upd H l (.lst xs))) (.ref l) (.list ds) → Q (.ref l) (upd H l (.lst xs))) : rListOf K [v] H Q := by
  obtain ⟨a, xs, rfl, hs, ha⟩ := items_at h hd
  refine ⟨a, xs, rfl, hs.imp (fun z => off_sub.seq z) (fun z => same_t off_sub z), fun l hl => q l xs hl ha ?_⟩
  exact .lst (sqL (by rw [off_out (kn.new hl)]; exact upd_same)) (dpa_same (off_same (same_new hl)) _ _ ha)
end Kh

set_option maxRecDepth 100000
/-! trees: the mathematics -/
namespace Kh
open PySem
inductive T where
  | leaf (n : Nat)
  | gate (b : Bool) (k : Nat) (ps : List T)
theorem T.ind {P : T → Prop} (hl : ∀ n, P (.leaf n)) (hg : ∀ b k ps, (∀ p ∈ ps, P p) → P (.gate b k ps)) : ∀ t, P t := fun t =>
  T.rec (motive_1 := P) (motive_2 := fun ps => ∀ p ∈ ps, P p) hl (fun b k ps h => hg b k ps h) (fun p h => nomatch h) (fun t ts h1 h2 p hp => by
    rcases List.mem_cons.mp hp with rfl | hp
    · exact h1
    · exact h2 p hp) t
def sq (b : Bool) (ds : List PyData) : PyData := if b then .tuple ds else .list ds
theorem items_sq (b : Bool) (ds : List PyData) : items (sq b ds) = some ds := by cases b <;> rfl
mutual
def tD : T → PyData
  | .leaf n => .int (n : Nat)
  | .gate b k ps => .tuple [.str "of", .int (k : Nat), sq b (tDs ps)]
def tDs : List T → List PyData
  | [] => []
  | p :: ps => tD p :: tDs ps
end
mutual
def lv : T → List Nat
  | .leaf n => [n]
  | .gate _ _ ps => lvs ps
def lvs : List T → List Nat
  | [] => []
  | p :: ps => lv p ++ lvs ps
end
mutual
def dep : T → Nat
  | .leaf _ => 0
  | .gate _ _ ps => 1 + deps ps
def deps : List T → Nat
  | [] => 0
  | p :: ps => max (dep p) (deps ps)
end
mutual
def siz : T → Nat
  | .leaf _ => 1
  | .gate _ _ ps => 1 + sizs ps
def sizs : List T → Nat
  | [] => 0
  | p :: ps => siz p + sizs ps
end
mutual
/-- all parts told by tuples (true), by lists (false) -/
def flg (c : Bool) : T → T
  | .leaf n => .leaf n
  | .gate _ k ps => .gate c k (flgs c ps)
def flgs (c : Bool) : List T → List T
  | [] => []
  | p :: ps => flg c p :: flgs c ps
end
mutual
/-- the contrary, its parts lists -/
def con : T → T
  | .leaf n => .leaf n
  | .gate _ k ps => .gate false (ps.length + 1 - k) (cons_ ps)
def cons_ : List T → List T
  | [] => []
  | p :: ps => con p :: cons_ ps
end
mutual
def st (s : List Nat) : T → Bool
  | .leaf n => decide (n ∈ s)
  | .gate _ k ps => decide (k ≤ sts s ps)
def sts (s : List Nat) : List T → Nat
  | [] => 0
  | p :: ps => (if st s p then 1 else 0) + sts s ps
end
mutual
def Wf : T → Prop
  | .leaf n => n < 24
  | .gate _ k ps => 1 ≤ k ∧ k ≤ ps.length ∧ Wfs ps
def Wfs : List T → Prop
  | [] => True
  | p :: ps => Wf p ∧ Wfs ps
end
theorem tDs_map : ∀ ps : List T, tDs ps = ps.map tD
  | [] => by simp [tDs]
  | p :: ps => by simp [tDs, tDs_map ps]
theorem lvs_map : ∀ ps : List T, lvs ps = ps.flatMap lv
  | [] => by simp [lvs]
  | p :: ps => by simp [lvs, lvs_map ps]
theorem flgs_map (c : Bool) : ∀ ps : List T, flgs c ps = ps.map (flg c)
  | [] => by simp [flgs]
  | p :: ps => by simp [flgs, flgs_map c ps]
theorem cons_map : ∀ ps : List T, cons_ ps = ps.map con
  | [] => by simp [cons_]
  | p :: ps => by simp [cons_, cons_map ps]
theorem sts_filter (s : List Nat) : ∀ ps : List T, sts s ps = (ps.filter (st s)).length
  | [] => by simp [sts]
  | p :: ps => by
    rw [sts, sts_filter s ps, List.filter_cons]
    cases st s p <;> simp [Nat.add_comm]
theorem wfs_all : ∀ ps : List T, Wfs ps ↔ ∀ p ∈ ps, Wf p
  | [] => by simp [Wfs]
  | p :: ps => by simp [Wfs, wfs_all ps]
theorem deps_le {d : Nat} : ∀ ps : List T, deps ps ≤ d ↔ ∀ p ∈ ps, dep p ≤ d
  | [] => by simp [deps]
  | p :: ps => by simp [deps, deps_le ps, Nat.max_le]
theorem tD_gate (b : Bool) (k : Nat) (ps : List T) : tD (.gate b k ps) = .tuple [.str "of", .int (k : Nat), sq b (ps.map tD)] := by rw [tD, tDs_map]
theorem lv_gate (b : Bool) (k : Nat) (ps : List T) : lv (.gate b k ps) = ps.flatMap lv := by rw [lv, lvs_map]
theorem flg_gate (c b : Bool) (k : Nat) (ps : List T) : flg c (.gate b k ps) = .gate c k (ps.map (flg c)) := by rw [flg, flgs_map]
theorem con_gate (b : Bool) (k : Nat) (ps : List T) : con (.gate b k ps) = .gate false (ps.length + 1 - k) (ps.map con) := by rw [con, cons_map]
theorem st_gate (s : List Nat) (b : Bool) (k : Nat) (ps : List T) : st s (.gate b k ps) = decide (k ≤ (ps.filter (st s)).length) := by rw [st, sts_filter]
theorem wf_gate (b : Bool) (k : Nat) (ps : List T) : Wf (.gate b k ps) ↔ 1 ≤ k ∧ k ≤ ps.length ∧ ∀ p ∈ ps, Wf p := by rw [Wf, wfs_all]
theorem dep_gate {d : Nat} (b : Bool) (k : Nat) (ps : List T) : dep (.gate b k ps) ≤ d + 1 ↔ ∀ p ∈ ps, dep p ≤ d := by
  rw [dep, ← deps_le]; omega
theorem dep_gate0 (b : Bool) (k : Nat) (ps : List T) : ¬ dep (.gate b k ps) ≤ 0 := by rw [dep]; omega
theorem lv_leaf (n : Nat) : lv (.leaf n) = [n] := by rw [lv]
theorem tD_leaf (n : Nat) : tD (.leaf n) = .int (n : Nat) := by rw [tD]
theorem flg_leaf (c : Bool) (n : Nat) : flg c (.leaf n) = .leaf n := by rw [flg]
theorem con_leaf (n : Nat) : con (.leaf n) = .leaf n := by rw [con]
theorem st_leaf (s : List Nat) (n : Nat) : st s (.leaf n) = decide (n ∈ s) := by rw [st]
end Kh

set_option maxRecDepth 100000
/-! kinds of data, by the kernel -/
namespace Kh
open PySem PySem.Spec PyProof.Rows L2
def kInt : PyData → Bool | .int _ => true | .bool _ => true | _ => false
def kBool : PyData → Bool | .bool _ => true | _ => false
def kStr : PyData → Bool | .str _ => true | _ => false
def kTup : PyData → Bool | .tuple _ => true | _ => false
def kList : PyData → Bool | .list _ => true | _ => false
theorem kit_int : ∀ d : PyData, kitB (tyN d) "int" = some (kInt d)
  | .none => (by decide +kernel : kitB "NoneType" "int" = some false)
  | .bool _ => (by decide +kernel : kitB "bool" "int" = some true)
  | .int _ => (by decide +kernel : kitB "int" "int" = some true)
  | .str _ => (by decide +kernel : kitB "str" "int" = some false)
  | .list _ => (by decide +kernel : kitB "list" "int" = some false)
  | .tuple _ => (by decide +kernel : kitB "tuple" "int" = some false)
  | .dict _ => (by decide +kernel : kitB "dict" "int" = some false)
theorem kit_bool : ∀ d : PyData, kitB (tyN d) "bool" = some (kBool d)
  | .none => (by decide +kernel : kitB "NoneType" "bool" = some false)
  | .bool _ => (by decide +kernel : kitB "bool" "bool" = some true)
  | .int _ => (by decide +kernel : kitB "int" "bool" = some false)
  | .str _ => (by decide +kernel : kitB "str" "bool" = some false)
  | .list _ => (by decide +kernel : kitB "list" "bool" = some false)
  | .tuple _ => (by decide +kernel : kitB "tuple" "bool" = some false)
  | .dict _ => (by decide +kernel : kitB "dict" "bool" = some false)
theorem kit_str : ∀ d : PyData, kitB (tyN d) "str" = some (kStr d)
  | .none => (by decide +kernel : kitB "NoneType" "str" = some false)
  | .bool _ => (by decide +kernel : kitB "bool" "str" = some false)
  | .int _ => (by decide +kernel : kitB "int" "str" = some false)
  | .str _ => (by decide +kernel : kitB "str" "str" = some true)
  | .list _ => (by decide +kernel : kitB "list" "str" = some false)
  | .tuple _ => (by decide +kernel : kitB "tuple" "str" = some false)
  | .dict _ => (by decide +kernel : kitB "dict" "str" = some false)
theorem kit_tup : ∀ d : PyData, kitB (tyN d) "tuple" = some (kTup d)
  | .none => (by decide +kernel : kitB "NoneType" "tuple" = some false)
  | .bool _ => (by decide +kernel : kitB "bool" "tuple" = some false)
  | .int _ => (by decide +kernel : kitB "int" "tuple" = some false)
  | .str _ => (by decide +kernel : kitB "str" "tuple" = some false)
  | .list _ => (by decide +kernel : kitB "list" "tuple" = some false)
  | .tuple _ => (by decide +kernel : kitB "tuple" "tuple" = some true)
  | .dict _ => (by decide +kernel : kitB "dict" "tuple" = some false)
theorem kit_list : ∀ d : PyData, kitB (tyN d) "list" = some (kList d)
  | .none => (by decide +kernel : kitB "NoneType" "list" = some false)
  | .bool _ => (by decide +kernel : kitB "bool" "list" = some false)
  | .int _ => (by decide +kernel : kitB "int" "list" = some false)
  | .str _ => (by decide +kernel : kitB "str" "list" = some false)
  | .list _ => (by decide +kernel : kitB "list" "list" = some true)
  | .tuple _ => (by decide +kernel : kitB "tuple" "list" = some false)
  | .dict _ => (by decide +kernel : kitB "dict" "list" = some false)
def isIntD : PyData → Bool | .int _ => true | _ => false
def isCountD : PyData → Bool | .int i => decide (0 ≤ i) | _ => false
def isListD (d : PyData) : Bool := kList d || kTup d
def belowD (m : Int) : PyData → Bool | .int i => decide (0 ≤ i) && decide (i < m) | _ => false
end Kh

set_option maxRecDepth 100000
/-! readings, piece by piece -/
namespace Kh
open PySem PySem.Spec PyProof.Rows L2
section
variable {σ : L2.St} {H : Hp} {Q : VK} {D : Ends} {te ta tb tc : TE} {tt tu : TT} {ts tv : TS} {r r' : R2} {c1 : List V → Hp → VK → Prop} {sp : Sp} {E : XK} {v : V} {i : Nat} {K : PySem.W.Frag}
theorem t_var (h : σ[i]? = some (some v)) (q : Q v H) : tVar i σ H Q := ⟨v, h, q⟩
theorem t_c (q : Q v H) : tC v σ H Q := q
theorem t_op (h : ta σ H fun x H1 => tb σ H1 fun y H2 => r x y H2 Q) : tOp r ta tb σ H Q := h
theorem t_un {u1 : V → Hp → VK → Prop} (h : ta σ H fun x H1 => u1 x H1 Q) : tUn u1 ta σ H Q := h
theorem t_cb1 (h : ta σ H fun x H1 => c1 [x] H1 Q) : tCB c1 (tCons ta tNil) σ H Q := h
theorem t_cb2 (h : ta σ H fun x H1 => tb σ H1 fun y H2 => c1 [x, y] H2 Q) : tCB c1 (tCons ta (tCons tb tNil)) σ H Q := h
theorem t_call1 (h : ta σ H fun x H1 => sp [x] H1 Q E) : tCall sp [] E (tCons ta tNil) σ H Q := h
theorem t_call2 (h : ta σ H fun x H1 => tb σ H1 fun y H2 => sp [x, y] H2 Q E) : tCall sp [] E (tCons ta (tCons tb tNil)) σ H Q := h
theorem t_call3 (h : ta σ H fun x H1 => tb σ H1 fun y H2 => tc σ H2 fun z H3 => sp [x, y, z] H3 Q E) : tCall sp [] E (tCons ta (tCons tb (tCons tc tNil))) σ H Q := h
theorem t_notV (h : ta σ H fun x H1 => ∃ c, x = .bl c ∧ Q (.bl (!c)) H1) : tNotV ta σ H Q := h
theorem t_andV (h : ta σ H fun x H1 => ∃ c, x = .bl c ∧ if c = true then tb σ H1 Q else Q (.bl false) H1) : tAndV ta tb σ H Q := h
theorem t_orV (h : ta σ H fun x H1 => ∃ c, x = .bl c ∧ if c = true then Q (.bl true) H1 else tb σ H1 Q) : tOrV ta tb σ H Q := h
theorem t_if (h : tt σ H fun c H1 => if c = true then ta σ H1 Q else tb σ H1 Q) : tIf tt ta tb σ H Q := h
theorem t_lst0 (h : ∀ p, H p = none → Q (.ref p) (upd H p (.lst []))) : tLst tNil σ H Q := ⟨Nat.zero_le _, h⟩
theorem t_lst1 (h : ta σ H fun x H1 => ∀ p, H1 p = none → Q (.ref p) (upd H1 p (.lst [x]))) (m : ∀ Q Q' : VK, (∀ v H, Q v H → Q' v H) → ta σ H Q → ta σ H Q') : tLst (tCons ta tNil) σ H Q := m _ _ (fun x _ h => ⟨show [x].length ≤ sizeLine from Nat.le_trans (show 1 ≤ 1000 by decide) (by decide), h⟩) h
theorem t_tup {t : TA} (h : t σ H fun xs H1 => xs.length ≤ sizeLine ∧ ∀ p, H1 p = none → Q (.ref p) (upd H1 p (.tup xs))) : tTup t σ H Q := h
theorem t_lst {t : TA} (h : t σ H fun xs H1 => xs.length ≤ sizeLine ∧ ∀ p, H1 p = none → Q (.ref p) (upd H1 p (.lst xs))) : tLst t σ H Q := h
theorem a_cons {t : TA} {q : List V → Hp → Prop} (h : te σ H fun x H1 => t σ H1 fun xs H2 => q (x :: xs) H2) : tCons te t σ H q := h
theorem a_nil {q : List V → Hp → Prop} (h : q [] H) : tNil σ H q := h
theorem t_bm {K : PySem.W.Frag} {T : String} {r3 : V → List V → Hp → VK → Prop} {t : TA} (h : te σ H fun x H1 => tyV K T x H1 ∧ t σ H1 fun xs H2 => r3 x xs H2 Q) : tBM K T r3 te t σ H Q := h
theorem t_bm0 {K : PySem.W.Frag} {T : String} {r3 : V → List V → Hp → VK → Prop} (h : te σ H fun x H1 => tyV K T x H1 ∧ r3 x [] H1 Q) : tBM0 K T r3 te σ H Q := h
theorem t_call {t : TA} (h : t σ H fun vs H1 => sp vs H1 Q E) : tCall sp [] E t σ H Q := by
  have e : (fun (vs : List V) (H1 : Hp) => sp (vs ++ []) H1 Q E) = fun vs H1 => sp vs H1 Q E := by funext vs H1; rw [List.append_nil]
  show t σ H fun vs H1 => sp (vs ++ []) H1 Q E
  rw [e]; exact h
theorem t_cb {t : TA} (h : t σ H fun vs H1 => c1 vs H1 Q) : tCB c1 t σ H Q := h
theorem b_test {q : Bool → Hp → Prop} (h : te σ H fun x H1 => ∃ k, x = .bl k ∧ q k H1) : tTest te σ H q := h
theorem b_val {q : Bool → Hp → Prop} (h : te σ H fun x H1 => ∃ k, x = .bl k ∧ q k H1) : tB te σ H q := h
theorem b_not {q : Bool → Hp → Prop} (h : tt σ H fun b H1 => q (!b) H1) : tNot tt σ H q := h
theorem b_and {q : Bool → Hp → Prop} (h : tt σ H fun c H1 => if c = true then tu σ H1 q else q false H1) : tAnd tt tu σ H q := h
theorem b_or {q : Bool → Hp → Prop} (h : tt σ H fun c H1 => if c = true then q true H1 else tu σ H1 q) : tOr tt tu σ H q := h
theorem s_ret (h : te σ H D.rt) : tRet te D σ H := h
theorem s_if (h : tt σ H fun b H1 => if b = true then ts D σ H1 else tv D σ H1) : tIfS tt ts tv D σ H := h
theorem s_seq (h : ts { D with nx := tv D } σ H) : tSeq ts tv D σ H := h
theorem s_set (h : te σ H fun x H1 => D.nx (σ.set i (some x)) H1) : tAsg te (gName i) D σ H := h
theorem s_next {f : L2.St → Hp → Prop} {r : VK} {b c : L2.St → Hp → Prop} (h : f σ H) : tNext { nx := f, rt := r, bk := b, ct := c } σ H := h
theorem nx_of {f : L2.St → Hp → Prop} {r : VK} {b c : L2.St → Hp → Prop} (h : f σ H) : Ends.nx { nx := f, rt := r, bk := b, ct := c } σ H := h
theorem s_drop (h : te σ H fun _ H1 => D.nx σ H1) : tDrop te D σ H := h
end
/-- a bool, then by cases -/
theorem bl_if {b : Bool} {A B : Prop} (h1 : b = true → A) (h2 : b = false → B) : ∃ c, V.bl b = V.bl c ∧ if c = true then A else B :=
  ⟨b, rfl, by cases b with
    | true => exact iteT (h1 rfl)
    | false => exact iteF (h2 rfl)⟩
theorem bl_ifT {A B : Prop} (h1 : A) : ∃ c, V.bl true = V.bl c ∧ if c = true then A else B := bl_if (fun _ => h1) fun z => nomatch z
theorem bl_ifF {A B : Prop} (h1 : B) : ∃ c, V.bl false = V.bl c ∧ if c = true then A else B := bl_if (fun z => nomatch z) fun _ => h1
theorem if_b {b : Bool} {A B : Prop} (h1 : b = true → A) (h2 : b = false → B) : if b = true then A else B := by
  cases b with
  | true => exact iteT (h1 rfl)
  | false => exact iteF (h2 rfl)
theorem ii {i j : Int} {C : Int → Int → Prop} (h : C i j) : ∃ k l, V.int i = V.int k ∧ V.int j = V.int l ∧ C k l := ⟨i, j, rfl, rfl, h⟩
end Kh

set_option maxRecDepth 100000
set_option maxHeartbeats 1000000
/-! comprehensions over data -/
namespace Kh
open PySem PySem.Spec PyProof.Rows L2
theorem le1 : 1 ≤ sizeLine := by decide
theorem le2 : 2 ≤ sizeLine := by decide
theorem le3 : 3 ≤ sizeLine := by decide
theorem le4 : 4 ≤ sizeLine := by decide
theorem le5 : 5 ≤ sizeLine := by decide
theorem ifT {b : Bool} {A B : Prop} (e : b = true) (h : A) : if b = true then A else B := by rw [e]; exact iteT h
theorem ifF {b : Bool} {A B : Prop} (e : b = false) (h : B) : if b = true then A else B := by rw [e]; exact iteF h
/-- a new object keeps the rest of what is told -/
theorem off_plus {S : Addr → Prop} {H1 H : Hp} {D : Addr} (hD : H1 D = none) (s : Same H1 H) : Same (off S H1) (off (plus S D) H) := fun b o h => by
  obtain ⟨n, h⟩ := off_some h
  rw [off_out]
  · exact s b o h
  · rintro (z | rfl)
    · exact n z
    · rw [hD] at h; cases h
theorem off_fin {S : Addr → Prop} {H : Hp} {D : Addr} : Same (off (plus S D) H) (off S H) := off_less fun _ h => .inl h
/-- a new list or tuple of data -/
theorem dp_lst {K : PySem.W.Frag} {S : Addr → Prop} {H : Hp} {D : Addr} {ys : List V} {ds : List PyData} (n : ¬ S D) (h : H D = some (.lst ys)) (a : DpAll K (off S H) ys ds) : Dp K (off S H) (.ref D) (.list ds) :=
  .lst (sqL (by rw [off_out n]; exact h)) a
theorem dp_tup {K : PySem.W.Frag} {S : Addr → Prop} {H : Hp} {D : Addr} {ys : List V} {ds : List PyData} (n : ¬ S D) (h : H D = some (.tup ys)) (a : DpAll K (off S H) ys ds) : Dp K (off S H) (.ref D) (.tuple ds) :=
  .tup (sqT (by rw [off_out n]; exact h)) a
theorem dp_newT {K : PySem.W.Frag} {S : Addr → Prop} {H : Hp} {D : Addr} {ys : List V} {ds : List PyData} (kn : Kn S H) (h : H D = none) (a : DpAll K (off S H) ys ds) : Dp K (off S (upd H D (.tup ys))) (.ref D) (.tuple ds) :=
  dp_tup (kn.new h) upd_same (dpa_same (off_same (same_new h)) _ _ a)
theorem dp_newL {K : PySem.W.Frag} {S : Addr → Prop} {H : Hp} {D : Addr} {ys : List V} {ds : List PyData} (kn : Kn S H) (h : H D = none) (a : DpAll K (off S H) ys ds) : Dp K (off S (upd H D (.lst ys))) (.ref D) (.list ds) :=
  dp_lst (kn.new h) upd_same (dpa_same (off_same (same_new h)) _ _ a)
theorem dp_bl {K : PySem.W.Frag} {H : Hp} {b c : Bool} (e : b = c) : Dp K H (.bl b) (.bool c) := by subst e; exact .bl b
theorem dp_int {K : PySem.W.Frag} {H : Hp} {b c : Int} (e : b = c) : Dp K H (.int b) (.int c) := by subst e; exact .int b
/-- what is walked: a list or a tuple of data -/
theorem it_any {K : PySem.W.Frag} {S : Addr → Prop} {H : Hp} {σ : L2.St} {t : TE} {R : It → Hp → Prop} {b : Bool} {ds : List PyData}
    (hev : ∀ Q : VK, (∀ u H1, Same H H1 → Dp K (off S H1) u (sq b ds) → Q u H1) → t σ H Q)
    (k : ∀ J xs H1, Same H H1 → DpAll K (off S H1) xs ds → Walk J xs.length (fun H' => Same (off S H1) H') (YAt xs) → R J H1) : iList K t σ H R ∨ iTup K t σ H R := by
  cases b with
  | false =>
    refine .inl (hev _ fun u H1 s du => ?_)
    obtain ⟨a, xs, rfl, hs, ha⟩ := list_at du
    exact ⟨a, rfl, ⟨xs, off_sub.seq hs⟩, k _ xs H1 s ha (walk_list.mono (fun H' z => z.seq hs) fun _ _ _ _ _ _ y => y)⟩
  | true =>
    refine .inr (hev _ fun u H1 s du => ?_)
    obtain ⟨a, xs, rfl, hs, ha⟩ := tup_at du
    exact ⟨a, rfl, ⟨xs, same_t off_sub hs⟩, k _ xs H1 s ha (walk_tup.mono (fun H' z => same_t z hs) fun _ _ _ _ _ _ y => y)⟩
theorem range_map {α β : Type} {l : List α} {f : Nat → β} {g : α → β} (h : ∀ i x, l[i]? = some x → f i = g x) : (List.range l.length).map f = l.map g := by
  apply List.ext_getElem?
  intro i
  by_cases q : i < l.length
  · rw [List.getElem?_map, List.getElem?_map, List.getElem?_range q, List.getElem?_eq_getElem q]
    simp [h i _ (List.getElem?_eq_getElem q)]
  · rw [List.getElem?_eq_none_iff.mpr (by simp; omega), List.getElem?_eq_none_iff.mpr (by simp; omega)]
/-- [e for x in xs], e data of the item -/
theorem lc_dat {K : PySem.W.Frag} {S : Addr → Prop} {H1 : Hp} {σ : L2.St} {te : TE} {sl : Nat} {vs : List Nat} {Qd : VK} {J : It} {xs : List V} {ds : List PyData} (f : Nat → PyData)
    (w : Walk J xs.length (fun H' => Same (off S H1) H') (YAt xs)) (ha : DpAll K (off S H1) xs ds) (kn : Kn S H1) (hn : ds.length ≤ 100000) (hw : ∀ x, wipe ((wipe σ vs).set sl (some x)) vs = wipe σ vs)
    (body : ∀ j x d H S', ds[j]? = some d → Same H1 H → Kn S' H → Dp K (off S' H) x d → (∀ a, S a → S' a) → Same (off S H1) (off S' H) → ∀ Q : VK, (∀ y H', Same H H' → Dp K (off S' H') y (f j) → Q y H') → te ((wipe σ vs).set sl (some x)) H Q)
    (done : ∀ D H ys, H1 D = none → Same H1 H → H D = some (.lst ys) → Dp K (off S H) (.ref D) (.list ((List.range ds.length).map f)) → Qd (.ref D) H) :
    ∀ D, H1 D = none → ∃ W : Nat → Nat → Hp → Prop, (∃ m, W 0 m (upd H1 D (.lst []))) ∧ ∀ i m H, W i m H →
      (J.stop i H ∧ Qd (.ref D) H) ∨ (J.go i H ∧ ∃ Nx : Hp → Prop, (∀ H', Nx H' → ∃ m', m' < m ∧ W (i + 1) m' H') ∧ ∀ x H', J.yld i H x H' → gName sl x (wipe σ vs) H' fun σ2 H2 => wipe σ2 vs = wipe σ vs ∧ tYes σ2 H2 fun b H3 =>
        if b = true then te σ2 H3 fun y H4 => ∃ acc, H4 D = some (.lst acc) ∧ acc.length < sizeLine ∧ Nx (upd H4 D (.lst (acc ++ [y]))) else Nx H3) := by
  intro D hD
  have ln := dpa_len ha
  refine lc_map (Qd := Qd (.ref D)) w (fun j x => xs[j]? = some x) (fun i H x H' _ y => y) (fun j y H => Dp K (off (plus S D) H) y (f j)) (fun H s => off_sub.trans s) hD (by omega) hw (fun j y H H' e h => dp_same (off_but e) _ _ h) (fun j x H hj xj s hd Q q => ?_) (fun ys H hl py s hd => ?_)
  · obtain ⟨d, dj, dx⟩ := dpa_at ha xj
    exact body j x d H (plus S D) dj s ((kn.same s).plus hd) (dp_same (off_plus hD s) _ _ dx) (fun _ h => .inl h) (off_plus hD s) Q q
  · refine done D H ys hD s hd (dp_lst (kn.new hD) hd ?_)
    refine dpa_same (off_fin (D := D)) _ _ (dpa_of (by simp [hl, ln]) fun i v d h1 h2 => ?_)
    have hi : i < ds.length := by
      have := (List.getElem?_eq_some_iff.mp h1).1
      omega
    rw [List.getElem?_map, List.getElem?_range hi] at h2
    cases h2
    exact py i v h1
/-- [e for x in xs if t], t known item by item -/
theorem lc_datF {K : PySem.W.Frag} {S : Addr → Prop} {H1 : Hp} {σ : L2.St} {te : TE} {tt : TT} {sl : Nat} {vs : List Nat} {Qd : VK} {J : It} {xs : List V} {ds : List PyData} (pt : Nat → Bool) (f : Nat → PyData)
    (w : Walk J xs.length (fun H' => Same (off S H1) H') (YAt xs)) (ha : DpAll K (off S H1) xs ds) (kn : Kn S H1) (hn : ds.length ≤ 100000) (hw : ∀ x, wipe ((wipe σ vs).set sl (some x)) vs = wipe σ vs)
    (test : ∀ j x d H S', ds[j]? = some d → Same H1 H → Kn S' H → Dp K (off S' H) x d → (∀ a, S a → S' a) → Same (off S H1) (off S' H) → ∀ Q : Bool → Hp → Prop, (∀ H', Same H H' → Q (pt j) H') → tt ((wipe σ vs).set sl (some x)) H Q)
    (body : ∀ j x d H S', ds[j]? = some d → pt j = true → Same H1 H → Kn S' H → Dp K (off S' H) x d → (∀ a, S a → S' a) → Same (off S H1) (off S' H) → ∀ Q : VK, (∀ y H', Same H H' → Dp K (off S' H') y (f j) → Q y H') → te ((wipe σ vs).set sl (some x)) H Q)
    (done : ∀ D H ys, H1 D = none → Same H1 H → H D = some (.lst ys) → Dp K (off S H) (.ref D) (.list (((List.range ds.length).filter pt).map f)) → Qd (.ref D) H) :
    ∀ D, H1 D = none → ∃ W : Nat → Nat → Hp → Prop, (∃ m, W 0 m (upd H1 D (.lst []))) ∧ ∀ i m H, W i m H →
      (J.stop i H ∧ Qd (.ref D) H) ∨ (J.go i H ∧ ∃ Nx : Hp → Prop, (∀ H', Nx H' → ∃ m', m' < m ∧ W (i + 1) m' H') ∧ ∀ x H', J.yld i H x H' → gName sl x (wipe σ vs) H' fun σ2 H2 => wipe σ2 vs = wipe σ vs ∧ tt σ2 H2 fun b H3 =>
        if b = true then te σ2 H3 fun y H4 => ∃ acc, H4 D = some (.lst acc) ∧ acc.length < sizeLine ∧ Nx (upd H4 D (.lst (acc ++ [y]))) else Nx H3) := by
  intro D hD
  have ln := dpa_len ha
  refine lc_filt (Qd := Qd (.ref D)) w (fun j x => xs[j]? = some x) (fun i H x H' _ y => y) pt (fun j y H => Dp K (off (plus S D) H) y (f j)) (fun H s => off_sub.trans s) hD (by omega) hw (fun j y H H' e h => dp_same (off_but e) _ _ h) (fun j x H hj xj s hd Q q => ?_) (fun j x H hj xj pj s hd Q q => ?_) (fun ys H py s hd => ?_)
  · obtain ⟨d, dj, dx⟩ := dpa_at ha xj
    exact test j x d H (plus S D) dj s ((kn.same s).plus hd) (dp_same (off_plus hD s) _ _ dx) (fun _ h => .inl h) (off_plus hD s) Q q
  · obtain ⟨d, dj, dx⟩ := dpa_at ha xj
    exact body j x d H (plus S D) dj pj s ((kn.same s).plus hd) (dp_same (off_plus hD s) _ _ dx) (fun _ h => .inl h) (off_plus hD s) Q q
  · refine done D H ys hD s hd (dp_lst (kn.new hD) hd ?_)
    rw [ln] at py
    refine dpa_same (off_fin (D := D)) _ _ ?_
    have go : ∀ {l : List Nat} {ys : List V}, Paired (fun j y => Dp K (off (plus S D) H) y (f j)) l ys → DpAll K (off (plus S D) H) ys (l.map f) := by
      intro l ys p
      induction p with
      | nil => exact .nil
      | cons r t ih => exact .cons r ih
    exact go py
theorem lc_seqF {K : PySem.W.Frag} {S : Addr → Prop} {H : Hp} {σ : L2.St} {t te : TE} {tt : TT} {sl : Nat} {vs : List Nat} {Q : VK} {b : Bool} {ds : List PyData} (pt : Nat → Bool) (f : Nat → PyData) (kn : Kn S H)
    (hev : ∀ Q : VK, (∀ u H1, Same H H1 → Dp K (off S H1) u (sq b ds) → Q u H1) → t σ H Q) (hn : ds.length ≤ 100000) (hw : ∀ x, wipe ((wipe σ vs).set sl (some x)) vs = wipe σ vs)
    (test : ∀ j x d H1 S', ds[j]? = some d → Same H H1 → Kn S' H1 → Dp K (off S' H1) x d → (∀ a, S a → S' a) → Same (off S H) (off S' H1) → ∀ Q : Bool → Hp → Prop, (∀ H', Same H1 H' → Q (pt j) H') → tt ((wipe σ vs).set sl (some x)) H1 Q)
    (body : ∀ j x d H1 S', ds[j]? = some d → pt j = true → Same H H1 → Kn S' H1 → Dp K (off S' H1) x d → (∀ a, S a → S' a) → Same (off S H) (off S' H1) → ∀ Q : VK, (∀ y H', Same H1 H' → Dp K (off S' H') y (f j) → Q y H') → te ((wipe σ vs).set sl (some x)) H1 Q)
    (done : ∀ D H1 ys, H D = none → Same H H1 → H1 D = some (.lst ys) → Dp K (off S H1) (.ref D) (.list (((List.range ds.length).filter pt).map f)) → Q (.ref D) H1) :
    tLc (fun σ H R => iList K t σ H R ∨ iTup K t σ H R) (gName sl) tt te vs σ H Q :=
  it_any hev fun J xs H1 s ha w => lc_datF pt f w ha (kn.same s) hn hw (fun j x d H2 S' dj s2 kn2 dx hS hoff Q q => test j x d H2 S' dj (s.trans s2) kn2 dx hS ((off_same s).trans hoff) Q q)
    (fun j x d H2 S' dj pj s2 kn2 dx hS hoff Q q => body j x d H2 S' dj pj (s.trans s2) kn2 dx hS ((off_same s).trans hoff) Q q)
    fun D H2 ys hD s2 hd h => done D H2 ys (s.free hD) (s.trans s2) hd h
theorem range_filter {α β : Type} {l : List α} {pt : Nat → Bool} {p : α → Bool} {f : Nat → β} {g : α → β} (h : ∀ i x, l[i]? = some x → pt i = p x ∧ f i = g x) : ((List.range l.length).filter pt).map f = (l.filter p).map g := by
  have go : ∀ n, n ≤ l.length → ((List.range n).filter pt).map f = ((l.take n).filter p).map g := by
    intro n
    induction n with
    | zero => intro _; simp
    | succ n ih =>
      intro hn
      have e : l[n]? = some l[n] := List.getElem?_eq_getElem (by omega)
      obtain ⟨h1, h2⟩ := h n _ e
      rw [List.range_succ, List.take_add_one, e, List.filter_append, List.filter_append, List.map_append, List.map_append, ih (by omega)]
      congr 1
      cases q : p l[n] with
      | true => rw [q] at h1; simp [h1, h2, q]
      | false => rw [q] at h1; simp [h1, q]
  have := go l.length (Nat.le_refl _)
  rwa [List.take_length] at this
/-- .. that is walked as it stands -/
theorem lc_seq {K : PySem.W.Frag} {S : Addr → Prop} {H : Hp} {σ : L2.St} {t te : TE} {sl : Nat} {vs : List Nat} {Q : VK} {b : Bool} {ds : List PyData} (f : Nat → PyData) (kn : Kn S H)
    (hev : ∀ Q : VK, (∀ u H1, Same H H1 → Dp K (off S H1) u (sq b ds) → Q u H1) → t σ H Q) (hn : ds.length ≤ 100000) (hw : ∀ x, wipe ((wipe σ vs).set sl (some x)) vs = wipe σ vs)
    (body : ∀ j x d H1 S', ds[j]? = some d → Same H H1 → Kn S' H1 → Dp K (off S' H1) x d → (∀ a, S a → S' a) → Same (off S H) (off S' H1) → ∀ Q : VK, (∀ y H', Same H1 H' → Dp K (off S' H') y (f j) → Q y H') → te ((wipe σ vs).set sl (some x)) H1 Q)
    (done : ∀ D H1 ys, H D = none → Same H H1 → H1 D = some (.lst ys) → Dp K (off S H1) (.ref D) (.list ((List.range ds.length).map f)) → Q (.ref D) H1) :
    tLc (fun σ H R => iList K t σ H R ∨ iTup K t σ H R) (gName sl) tYes te vs σ H Q :=
  it_any hev fun J xs H1 s ha w => lc_dat f w ha (kn.same s) hn hw (fun j x d H2 S' dj s2 kn2 dx hS hoff Q q => body j x d H2 S' dj (s.trans s2) kn2 dx hS ((off_same s).trans hoff) Q q)
    fun D H2 ys hD s2 hd h => done D H2 ys (s.free hD) (s.trans s2) hd h

theorem t_yes {σ : L2.St} {H : Hp} {A B : Hp → Prop} (h : A H) : tYes σ H fun b H' => if b = true then A H' else B H' := iteT (A := A H) (B := B H) h
/-- any walk, a step a turn -/
theorem wlk {J : It} {n : Nat} {G : Hp → Prop} {Y : Nat → Hp → V → Hp → Prop} (w : Walk J n G Y) {H0 : Hp} {Dn : Hp → Prop} (Stp : V → Hp → (Hp → Prop) → Prop) (Pv : Nat → Hp → Prop) (h0 : Pv 0 H0) (hG : ∀ i H, i ≤ n → Pv i H → G H)
    (hs : ∀ i x H H', i < n → Pv i H → Y i H x H' → Stp x H' (Pv (i + 1))) (hd : ∀ H, Pv n H → Dn H) :
    ∃ W : Nat → Nat → Hp → Prop, (∃ m, W 0 m H0) ∧ ∀ i m H, W i m H →
      (J.stop i H ∧ Dn H) ∨ (J.go i H ∧ ∃ Nx : Hp → Prop, (∀ H', Nx H' → ∃ m', m' < m ∧ W (i + 1) m' H') ∧ ∀ x H', J.yld i H x H' → Stp x H' Nx) := by
  refine ⟨fun i m H => m = n - i ∧ i ≤ n ∧ Pv i H, ⟨n, by simp, Nat.zero_le _, h0⟩, ?_⟩
  rintro i m H ⟨rfl, hi, p⟩
  by_cases q : i < n
  · exact .inr ⟨w.goes i H q (hG i H hi p), Pv (i + 1), fun H' p' => ⟨n - (i + 1), by omega, rfl, q, p'⟩, fun x H' y => hs i x H H' q p (w.yields i H x H' q (hG i H hi p) y)⟩
  · have e : i = n := by omega
    subst e
    exact .inl ⟨w.stops H (hG _ H hi p), hd H p⟩
theorem flat_take {f : Nat → List PyData} (n : Nat) : (List.range (n + 1)).flatMap f = (List.range n).flatMap f ++ f n := by
  rw [List.range_succ, List.flatMap_append]; simp
/-- [y for x in xs for y in e], e a list of data -/
theorem lc2_seq {K : PySem.W.Frag} {S : Addr → Prop} {H : Hp} {σ : L2.St} {t t2 : TE} {s1 s2 : Nat} {vs vs1 : List Nat} {Q : VK} {b : Bool} {ds : List PyData} (f : Nat → List PyData) (kn : Kn S H)
    (hev : ∀ Q : VK, (∀ u H1, Same H H1 → Dp K (off S H1) u (sq b ds) → Q u H1) → t σ H Q) (hn : ∀ n, n ≤ ds.length → ((List.range n).flatMap f).length ≤ 100000) (hw : ∀ x, wipe ((wipe σ vs).set s1 (some x)) vs = wipe σ vs)
    (hw1 : ∀ x y, wipe ((wipe ((wipe σ vs).set s1 (some x)) vs1).set s2 (some y)) vs1 = wipe ((wipe σ vs).set s1 (some x)) vs1) (hg : ∀ x y, ((wipe ((wipe σ vs).set s1 (some x)) vs1).set s2 (some y))[s2]? = some (some y))
    (body : ∀ j x d H1 S', ds[j]? = some d → Same H H1 → Kn S' H1 → Dp K (off S' H1) x d → (∀ a, S a → S' a) → ∀ Q : VK, (∀ y H', Same H1 H' → Dp K (off S' H') y (.list (f j)) → Q y H') → t2 ((wipe σ vs).set s1 (some x)) H1 Q)
    (done : ∀ D H1 ys, H D = none → Same H H1 → H1 D = some (.lst ys) → Dp K (off S H1) (.ref D) (.list ((List.range ds.length).flatMap f)) → Q (.ref D) H1) :
    tLc2 (fun σ H R => iList K t σ H R ∨ iTup K t σ H R) (gName s1) tYes (fun σ H R => iList K t2 σ H R ∨ iTup K t2 σ H R) (gName s2) tYes (tVar s2) vs vs1 σ H Q := by
  refine it_any hev fun J xs H1 s ha w D hD => ?_
  have ln := dpa_len ha
  have kn1 := kn.same s
  refine wlk w (fun x H' Nx => gName s1 x (wipe σ vs) H' _) (fun i H' => ∃ ys, DpAll K (off (plus S D) H') ys ((List.range i).flatMap f) ∧ Same H1 H' ∧ H' D = some (.lst ys)) ⟨[], .nil, same_new hD, upd_same⟩ (fun i H' _ ⟨_, _, z, _⟩ => off_sub.trans z) ?_ ?_
  · rintro i x H2 H3 hi ⟨ys, py, z, hd⟩ ⟨rfl, xi⟩
    obtain ⟨d, dj, dx⟩ := dpa_at ha xi
    refine ⟨hw x, t_yes ?_⟩
    refine it_any (b := false) (S := plus S D) (ds := f i) (fun Q q => body i x d H3 (plus S D) dj (s.trans z) ((kn1.same z).plus (some_ne hd)) (dp_same (off_plus hD z) _ _ dx) (fun _ h => .inl h) Q q) fun J1 zs H4 s4 hz w1 => ?_
    have lz := dpa_len hz
    refine wlk w1 (fun y H' Nx => gName s2 y (wipe ((wipe σ vs).set s1 (some x)) vs1) H' fun σ3 H5 => wipe σ3 vs1 = wipe ((wipe σ vs).set s1 (some x)) vs1 ∧ tYes σ3 H5 fun b H6 => if b = true then tVar s2 σ3 H6 fun y H7 => ∃ acc, H7 D = some (.lst acc) ∧ acc.length < sizeLine ∧ Nx (upd H7 D (.lst (acc ++ [y]))) else Nx H6) (fun j H' => ∃ ys', DpAll K (off (plus S D) H') ys' ((List.range i).flatMap f ++ (f i).take j) ∧ SameBut D H4 H' ∧ H' D = some (.lst ys')) ⟨ys, by simpa using dpa_same (off_same s4) _ _ py, sbut (Same.refl _), s4 _ _ hd⟩ (fun j H' _ ⟨_, _, z', _⟩ => fun c o h => z' c o (fun e => (off_some h).1 (.inr e)) (off_some h).2) ?_ fun H5 h5 => ?_
    · rintro j y H5 H6 hj ⟨ys', py', z', hd'⟩ ⟨rfl, yj⟩
      obtain ⟨e, ej, de⟩ := dpa_at hz yj
      refine ⟨hw1 x y, t_yes ?_⟩
      have hl : ys'.length ≤ 100000 := by
        have h1 := dpa_len py'
        have h2 := hn (i + 1) (by omega)
        rw [flat_take, List.length_append] at h2
        rw [h1, List.length_append, List.length_take]
        omega
      refine ⟨y, hg x y, ys', hd', Nat.lt_of_le_of_lt hl (by decide), ys' ++ [y], ?_, bmut z', upd_same⟩
      rw [off_mut (show plus S D D from .inr rfl), List.take_add_one, ej, ← List.append_assoc]
      exact dpa_app py' (.cons (dp_same (off_but z') _ _ de) .nil)
    · obtain ⟨ys', py', z', hd'⟩ := h5
      refine ⟨ys', ?_, ?_, hd'⟩
      · rw [flat_take]
        rwa [List.take_of_length_le (by omega)] at py'
      · intro c o h
        exact z' c o (ne_of_none h hD) (s4 c o (z c o h))
  · rintro H2 ⟨ys, py, z, hd⟩
    refine done D H2 ys (s.free hD) (s.trans z) hd (dp_lst (kn1.new hD) hd ?_)
    rw [← ln]
    exact dpa_same (off_fin (D := D)) _ _ py
end Kh

set_option maxRecDepth 100000
set_option maxHeartbeats 4000000
namespace PySem
open PySem.AutoSeq1
theorem kh_extend_tuple (l : Addr) (items : Array Value) (n : Nat) (b : Addr) (items2 : Array Value) (n2 : Nat) (dd : Option Addr) (sl : Array (Option Value)) (hs0 : ¬(!items.isEmpty && Builtin.List.listTooLong (items.size + items2.size)) = true) (hs1 : items.size ≤ sizeLine)
    (hs2 : items.size + items2.size ≤ sizeLine + 1) :
    Meets (Builtin.«list.extend» ⟨[.ref l, .ref b], []⟩) (fun _ R s => s.heap.get? l = some { cls := .type "list", dict := none, data := .seq items n, slots := #[] } ∧ s.heap.get? b = some { cls := .type "tuple", dict := dd, data := .seq items2 n2, slots := sl } ∧
      R (.ok (.ret Value.none)) { s with heap := s.heap.update l (Obj.mapSeq fun x => x ++ items2), toks := s.toks }) :=
  .of_wp fun prog w A R s h => by
    obtain ⟨hp, g, d, tk, os⟩ := s
    obtain ⟨hl, hb, h⟩ := h
    have f1 := idx_int; have f2 := sub_tuple_tuple; have f3 := sub_list_list; have f4 := sub_tuple_list; have f5 := sub_list_tuple
    have hz' : (items ++ items2).size ≤ sizeLine + 1 := by rw [Array.size_append]; exact hs2
    wp_walk using (wpAny_updateSeq hl rfl (hz := hs1) (_hz' := hz')), wpAny_loadPart' hl, wpAny_loadPart' hb
    exact ⟨_, rfl, h⟩
theorem kh_extend_list (l : Addr) (items : Array Value) (n : Nat) (b : Addr) (items2 : Array Value) (n2 : Nat) (dd : Option Addr) (sl : Array (Option Value)) (hs0 : ¬(!items.isEmpty && Builtin.List.listTooLong (items.size + items2.size)) = true) (hs1 : items.size ≤ sizeLine)
    (hs2 : items.size + items2.size ≤ sizeLine + 1) :
    Meets (Builtin.«list.extend» ⟨[.ref l, .ref b], []⟩) (fun _ R s => s.heap.get? l = some { cls := .type "list", dict := none, data := .seq items n, slots := #[] } ∧ s.heap.get? b = some { cls := .type "list", dict := dd, data := .seq items2 n2, slots := sl } ∧
      R (.ok (.ret Value.none)) { s with heap := s.heap.update l (Obj.mapSeq fun x => x ++ items2), toks := s.toks }) :=
  .of_wp fun prog w A R s h => by
    obtain ⟨hp, g, d, tk, os⟩ := s
    obtain ⟨hl, hb, h⟩ := h
    have f1 := idx_int; have f2 := sub_tuple_tuple; have f3 := sub_list_list; have f4 := sub_tuple_list; have f5 := sub_list_tuple
    have hz' : (items ++ items2).size ≤ sizeLine + 1 := by rw [Array.size_append]; exact hs2
    wp_walk using (wpAny_updateSeq hl rfl (hz := hs1) (_hz' := hz')), wpAny_loadPart' hl, wpAny_loadPart' hb
    exact ⟨_, rfl, h⟩
end PySem
namespace Kh
open PySem PySem.Spec PyProof.Rows L2
/-- xs.extend(a list or a tuple) -/
def rExtS (K : PySem.W.Frag) : V → List V → Hp → VK → Prop := fun x vs H Q => ∃ l b xs zs, x = .ref l ∧ vs = [.ref b] ∧ H l = some (.lst xs) ∧ (SqL K H b zs ∨ SqT K H b zs) ∧ xs.length + zs.length ≤ sizeLine ∧ Q .non (upd H l (.lst (xs ++ zs)))
theorem mt_extS {X : Cx} : MtM X "list.extend" (rExtS X.K) := by
  intro pins s ρ H x vs v us Q I rx rv h
  obtain ⟨l, b, xs, zs, rfl, rfl, hH, hB, hz, q⟩ := h
  cases rx
  obtain ⟨u, rfl, ru⟩ := rv.one
  cases ru
  obtain ⟨z, its, n, r, hl, e⟩ := I.lstM hH
  have fin : ∀ (its2 : List Value), Vals zs its2 → EP X pins ρ Q Value.none { s with heap := s.heap.update l (Obj.mapSeq fun x => x ++ its2.toArray), toks := s.toks } := fun its2 r2 =>
    ⟨.non, _, I.lset (its' := its ++ its2) hH e (by simp) (r.append r2) (by rw [List.length_append]; omega), rfl, q⟩
  have door : ∀ its2 : List Value, Vals zs its2 → ¬ (!its.toArray.isEmpty && Builtin.List.listTooLong (its.toArray.size + its2.toArray.size)) = true := fun its2 r2 => by
    have h1 : its.toArray.size + its2.toArray.size ≤ sizeLine := by rw [List.size_toArray, List.size_toArray, ← hl, ← r2.length]; exact hz
    rw [notLongL h1, Bool.and_false]; exact Bool.false_ne_true
  rcases hB with hB | hB
  · obtain ⟨its2, r2, ⟨⟨oc, od, ot, os⟩, n2, e2, h1, h2, h3⟩, _⟩ := I.list hB
    simp only at h1 h2 h3
    subst h1; subst h2; subst h3
    refine call_meets F.slot_list_extend ⟨_, e, rfl⟩ F.entry_list_extend (F.args_list_extend_2 _ _) (kh_extend_list l its.toArray n b its2.toArray n2 none os (door its2 r2) (by rw [List.size_toArray]; omega) ?_) ⟨e, e2, fin its2 r2⟩
    rw [List.size_toArray, List.size_toArray, ← hl, ← r2.length]; omega
  · obtain ⟨its2, r2, ⟨⟨oc, od, ot, os⟩, e2, h1, n2, h3⟩, _⟩ := I.tuple hB
    simp only at h1 h3
    subst h1; subst h3
    refine call_meets F.slot_list_extend ⟨_, e, rfl⟩ F.entry_list_extend (F.args_list_extend_2 _ _) (kh_extend_tuple l its.toArray n b its2.toArray n2 od os (door its2 r2) (by rw [List.size_toArray]; omega) ?_) ⟨e, e2, fin its2 r2⟩
    rw [List.size_toArray, List.size_toArray, ← hl, ← r2.length]; omega
end Kh

set_option maxRecDepth 100000
set_option maxHeartbeats 1000000
/-! the rules with the written part named (within a comprehension it is the body's) -/
namespace Kh
open PySem PySem.Spec PyProof.Rows L2
section
variable {X : Cx} {K : PySem.W.Frag}
theorem k_ix (h : X.K = K := by rfl) : IxR X (rIx K) := by subst h; exact ix_seq
theorem k_isi (h : X.K = K := by rfl) : CallR X (.builtin "isinstance") (rIsi K) := by subst h; exact call_isi
theorem k_isiT (h : X.K = K := by rfl) : CallR X (.builtin "isinstance") (rIsiT K) := by subst h; exact call_isiT
theorem k_len (h : X.K = K := by rfl) : CallR X (.builtin "len") (rLen K) := by subst h; exact call_lenR
theorem k_tup (h : X.K = K := by rfl) : CallR X (.type "tuple") (rTupOf K) := by subst h; exact call_tupR
theorem k_list (h : X.K = K := by rfl) : CallR X (.type "list") (rListOf K) := by subst h; exact call_listR
theorem k_all (hc : X.calm = true) (h : X.K = K := by rfl) : CallR X (.builtin "all") (rAll K) := by subst h; exact cr_all hc
theorem k_any (hc : X.calm = true) (h : X.K = K := by rfl) : CallR X (.builtin "any") (rAny K) := by subst h; exact cr_any hc
theorem k_max (hc : X.calm = true) (h : X.K = K := by rfl) : CallR X (.builtin "max") (rMax K) := by subst h; exact cr_max hc
theorem k_in (h : X.K = K := by rfl) : OpR X (compareOp .In) (rIn K false) := by subst h; exact op_in_seq
theorem k_notIn (h : X.K = K := by rfl) : OpR X (compareOp .NotIn) (rIn K true) := by subst h; exact op_notIn_seq
theorem k_eqD (hu : X.A.units + 64 < cLine) (h : X.K = K := by rfl) : OpR X (compareOp .Eq) (rEqD K) := by subst h; exact op_eqD hu
theorem k_neD (hu : X.A.units + 64 < cLine) (h : X.K = K := by rfl) : OpR X (compareOp .NotEq) (rNeD K) := by subst h; exact op_neD hu
theorem k_sl (h : X.K = K := by rfl) : SlR X (rSlL K) := by subst h; exact sl_list
theorem k_ext (h : X.K = K := by rfl) : MtM X "list.extend" (rExtS K) := by subst h; exact mt_extS
theorem k_pi {tg e : Expr} {t : TE} (he : PE X e t) (h : X.K = K := by rfl) : PI X tg e (fun σ H R => iList K t σ H R ∨ iTup K t σ H R) := by subst h; exact pi_any he
theorem k_fld {e : Expr} {f : Str} {pos : Pos} {t : TE} (he : PE X e t) (hb : attributeBase e f X.env (eval e X.env) = eval e X.env) (h : X.K = K := by rfl) : PE X (.Attribute e f pos) (tFld K t f) := by subst h; exact pe_fld he hb
end
end Kh

set_option maxRecDepth 100000
set_option maxHeartbeats 1000000
/-! name = {k: v for ..} -/
namespace Kh
open PySem PySem.Spec PyProof.Rows L2
theorem t_dc {wi : TI} {g : TG} {tt : TT} {tk tv : TE} {vs : List Nat} {σ : L2.St} {H : Hp} {Q : VK} (h : wi σ H fun J H1 => ∀ D, H1 D = none → ∃ W : Nat → Nat → Hp → Prop, (∃ m, W 0 m (upd H1 D (.dK []))) ∧ ∀ i m H, W i m H →
    (J.stop i H ∧ Q (.ref D) H) ∨ (J.go i H ∧ ∃ Nx : Hp → Prop, (∀ H', Nx H' → ∃ m', m' < m ∧ W (i + 1) m' H') ∧ ∀ x H', J.yld i H x H' → g x (wipe σ vs) H' fun σ2 H2 => wipe σ2 vs = wipe σ vs ∧ tt σ2 H2 fun b H3 =>
      if b = true then tk σ2 H3 fun y H4 => tv σ2 H4 fun z H5 => ∃ kvs k, y = kV k ∧ H5 D = some (.dK kvs) ∧ kvs.length < sizeLine ∧ Nx (upd H5 D (.dK (putK kvs k z))) else Nx H3)) : tDc wi g tt tk tv vs σ H Q := h
section
variable {X : Cx}
theorem sw_dict {kx vx : Expr} {gs : List Comprehension} {sc : Scope} {p q : Pos} {y : Str} {l : Nat} {env : Env} (h1 : env.scope.kind = .function) (h2 : env.scope.names.lookup y = some .local) (h3 : (q.line == p.line) = true)
    (h4 : (sc.names.any fun (n, k) => n == y && (k == .local || k == .cell)) = false) : swapsWith (.DictComp kx vx gs sc p) (some (.Name y q)) l env = pure true := by
  have k1 : env.kindOf y = some .local := h2
  have k2 : env.blockKind = .function := by (unfold Env.blockKind; rw [h1]; rfl)
  unfold swapsWith; simp only [k2, k1, h4, Expr.pos, h3]; rfl
theorem ps_setDc {i : Nat} {y : Str} {py : Pos} {kx vx tg it : Expr} {ifs : List Expr} {sc : Scope} {own : List (Str × Nat)} {pos spos : Pos} {wi : TI} {g : TG} {tt : TT} {tk tv : TE} (hc : X.calm = true) (hN : X.N.Nodup) (hy : X.N[i]? = some y) (hyl : X.env.scope.names.lookup y = some .local)
    (hsw : swapsWith (.DictComp kx vx [⟨tg, it, ifs, 0⟩] sc pos) (some (.Name y py)) spos.line X.env = pure true) (hi : PI X tg it wi) (ok : BlkOk X.N X.env.scope sc own)
    (hg : ∀ (s : Shared) (H : Hp) (C : Addr) (cl : List (Str × Addr)) (fp : List Addr), PG (X.blk s H sc (compEnvC sc cl C X.env) fp) tg g)
    (ht : ∀ (s : Shared) (H : Hp) (C : Addr) (cl : List (Str × Addr)) (fp : List Addr), PTs (X.blk s H sc (compEnvC sc cl C X.env) fp) ifs tt)
    (hk : ∀ (s : Shared) (H : Hp) (C : Addr) (cl : List (Str × Addr)) (fp : List Addr), PE (X.blk s H sc (compEnvC sc cl C X.env) fp) kx tk)
    (he : ∀ (s : Shared) (H : Hp) (C : Addr) (cl : List (Str × Addr)) (fp : List Addr), PE (X.blk s H sc (compEnvC sc cl C X.env) fp) vx tv) (hs : ∀ x, foldedSetIterable it X.env x = pure x := by intro _; rfl) :
    PS X (.Assign [.Name y py] (.DictComp kx vx [⟨tg, it, ifs, 0⟩] sc pos) spos) (tAsg (tDc wi g tt tk tv (own.map (·.2))) (gName i)) := by
  constructor
  intro pins s ρ H D I h
  rw [exec_Assign_Name_used _ _ _ _ hsw]
  have h' : tDc wi g tt tk tv (own.map (·.2)) ρ H (fun x H1 => gName i x ρ H1 D.nx) := h
  have step := dc_core (pos := pos) (pos' := firstIterPos [⟨tg, it, ifs, 0⟩] pos) (use := some (assign (.Name y py) X.env)) (Qf := fun _ s' => SP X pins D .next s') hc hN I hi ok hg ht hk he hs h' (fun L c s' m H' I' q hn f => by
    show wpAny _ _ (assign (.Name y py) X.env (.ref L)) _ _ _
    refine wpAny_assign_Name (store_ok2 (v := V.ref L) I' hN hy (.inl hyl) rfl ?_ (.inr hyl))
    rintro s2 I2 ⟨b, sb, hb⟩
    obtain ⟨f0, f1, f2, f3, f4, f5⟩ := f
    have nb : c ≠ b := hb.elim (fun z => z ▸ f1) fun z e => f4 y b z e.symm
    exact ⟨m, hn.sameBut sb nb, fun h3 sb3 => ⟨_, H', I2.turned (t' := s2.toks) (fun d o hd e => (sb3.2 d hd).trans e) f0 f1 f3 f4 f5, q⟩⟩)
  exact wpAny_bind (wpAny_standAt (wpAny_bind (wpAny_bind (thn step fun _ s' hq => wpAny_pure (wpAny_pure hq)))))
end
end Kh

set_option maxRecDepth 100000
set_option maxHeartbeats 1000000
/-! [e for x in range(n) if t]; fields; makes -/
namespace Kh
open PySem PySem.Spec PyProof.Rows L2
theorem lc_rngF {K : PySem.W.Frag} {S : Addr → Prop} {H : Hp} {σ : L2.St} {te : TE} {tt : TT} {sl : Nat} {vs : List Nat} {Q : VK} {n : Nat} {ta : TA} (pt : Nat → Bool) (f : Nat → PyData) (kn : Kn S H) (hn : n ≤ 100000)
    (hev : ∀ q : List V → Hp → Prop, (∀ H1, Same H H1 → q [.int (n : Nat)] H1) → ta σ H q) (hw : ∀ x, wipe ((wipe σ vs).set sl (some x)) vs = wipe σ vs)
    (test : ∀ j H1 S', j < n → Same H H1 → Kn S' H1 → (∀ a, S a → S' a) → Same (off S H) (off S' H1) → ∀ Q : Bool → Hp → Prop, (∀ H', Same H1 H' → Q (pt j) H') → tt ((wipe σ vs).set sl (some (.int (j : Nat)))) H1 Q)
    (body : ∀ j H1 S', j < n → pt j = true → Same H H1 → Kn S' H1 → (∀ a, S a → S' a) → Same (off S H) (off S' H1) → ∀ Q : VK, (∀ y H', Same H1 H' → Dp K (off S' H') y (f j) → Q y H') → te ((wipe σ vs).set sl (some (.int (j : Nat)))) H1 Q)
    (done : ∀ D H1 ys, H D = none → Same H H1 → H1 D = some (.lst ys) → Dp K (off S H1) (.ref D) (.list (((List.range n).filter pt).map f)) → Q (.ref D) H1) :
    tLc (iRng1 ta) (gName sl) tt te vs σ H Q := by
  refine hev _ fun H0 s0 => ⟨(n : Nat), rfl, by omega, by omega, ?_⟩
  have kn0 := kn.same s0
  intro D hD
  have w : Walk (Itr 0 n) n (fun _ => True) (YFn fun i => .int (0 + i)) := walk_range
  refine lc_filt (Qd := Q (.ref D)) w (fun j x => x = .int (j : Nat)) (fun i H x H' _ y => ⟨y.1, by rw [y.2]; show V.int (0 + _) = _; rw [Int.zero_add]⟩) pt (fun j y H => Dp K (off (plus S D) H) y (f j)) (fun H s => trivial) hD hn hw (fun j y H H' e h => dp_same (off_but e) _ _ h) (fun j x H1 hj xj s hd Q q => ?_) (fun j x H1 hj xj pj s hd Q q => ?_) (fun ys H1 py s hd => ?_)
  · subst xj
    exact test j H1 (plus S D) hj (s0.trans s) ((kn0.same s).plus hd) (fun _ h => .inl h) ((off_same s0).trans (off_plus hD s)) Q q
  · subst xj
    exact body j H1 (plus S D) hj pj (s0.trans s) ((kn0.same s).plus hd) (fun _ h => .inl h) ((off_same s0).trans (off_plus hD s)) Q q
  · refine done D H1 ys (s0.free hD) (s0.trans s) hd (dp_lst (kn0.new hD) hd ?_)
    refine dpa_same (off_fin (D := D)) _ _ ?_
    have go : ∀ {l : List Nat} {ys : List V}, Paired (fun j y => Dp K (off (plus S D) H1) y (f j)) l ys → DpAll K (off (plus S D) H1) ys (l.map f) := by
      intro l ys p
      induction p with
      | nil => exact .nil
      | cons r t ih => exact .cons r ih
    exact go py
section
variable {σ : L2.St} {H : Hp} {Q : VK} {D : Ends} {te ta tb tc : TE} {K : PySem.W.Frag} {sp : Sp} {E : XK} {C : Addr}
theorem s_fld {f : Str} (h : tb σ H fun y H1 => ta σ H1 fun x H2 => ∃ a C dx fs, x = .ref a ∧ H2 a = some (.ins C dx fs) ∧ Cls K C ∧ NoAttr K C f ∧ fs.length < 1000 ∧ D.nx σ (upd H2 a (.ins C dx (putF f y fs)))) : sFld K ta tb f D σ H := h
theorem t_fld {f : Str} (h : ta σ H fun x H1 => ∃ a C dx fs v, x = .ref a ∧ H1 a = some (.ins C dx fs) ∧ Cls K C ∧ NoAttr K C f ∧ fs.lookup f = some v ∧ Q v H1) : tFld K ta f σ H Q := h
theorem t_prop (h : ta σ H fun x H1 => ∃ a dx fs, x = .ref a ∧ H1 a = some (.ins C dx fs) ∧ sp [.ref a] H1 Q E) : tProp C sp [] E ta σ H Q := h
theorem t_meth0 {m : Str} (h : ta σ H fun x H1 => ∃ a dx fs, x = .ref a ∧ H1 a = some (.ins C dx fs) ∧ fs.lookup m = none ∧ sp [x] H1 Q E) : tMeth C m sp [] E ta tNil σ H Q := h
theorem t_meth1 {m : Str} (h : ta σ H fun x H1 => ∃ a dx fs, x = .ref a ∧ H1 a = some (.ins C dx fs) ∧ fs.lookup m = none ∧ tb σ H1 fun y H2 => sp [x, y] H2 Q E) : tMeth C m sp [] E ta (tCons tb tNil) σ H Q := h
theorem t_make1 (h : ta σ H fun y H1 => ∀ x dx, H1 x = none → H1 dx = none → dx ≠ x → sp [.ref x, y] (upd (upd H1 dx (.own x)) x (.ins C dx [])) (fun v H2 => v = .non ∧ Q (.ref x) H2) E) : tMake C sp [] E (tCons ta tNil) σ H Q := h
end
end Kh

set_option maxRecDepth 100000
set_option maxHeartbeats 1000000
/-! x != y where the class has its own == and no own != -/
namespace PySem.W
open PySem PySem.Calls PyProof.Rows Builtin
section
variable {prog : Program} {w : World} {A : Around} {E : Value → Shared → Prop} {s : Shared} {K : Frag} {x C L f : Addr} {h₀ : Heap} {m : Str → Option Value} {ox : Obj} {od : Option Obj} {b tb : Value}
theorem kh_ifBoundB {M : Model} {name : Str} {id : String} {args : List Value} {Q : Option Value → Shared → Prop} (X : K.In s.heap) (I : InstAt s.heap x ox C od) (hs : findIn K (.ref C) name = some (some (.builtin id))) (hb : ∀ self, bindSpecial (.builtin id) self = pure (.builtin id, [self]))
    (h : wpAny M A (call (.builtin id) (.ref x :: args)) (fun v => Q (some v)) E s) : wpAny M A (callSpecialIfBound? (.ref x) name args) Q E s := by
  simp only [callSpecialIfBound?, bindSpecialIfBound?]
  refine wpAny_holding (wpAny_bind (wpAny_bind (wpAny_bind (I.type.here ((looks_findIn X hs).here ?_)))))
  simp only [hb]
  refine wpAny_bind (wpAny_askSetting (wpAny_ite ?_))
  have fin : wpAny M A (call (.builtin id) ([.ref x] ++ args) >>= fun v => pure (some v)) Q E s := wpAny_bind (wpAny_mono h (fun v s' h' => wpAny_pure h') fun _ _ h' => h')
  split
  · exact wpAny_bind (wpAny_pure (wpAny_pure fin))
  · exact wpAny_tryCatch (wpAny_bind (wpAny_pure (wpAny_pure fin)))
theorem kh_check {M : Model} {id owner n : String} {rest : List Value} {Q : Unit → Shared → Prop} (X : K.In s.heap) (I : InstAt s.heap x ox C od) (ho : subIn K (.ref C) (.type owner) = some true) (hk : builtinKind id = some .slot) (hs : splitId id = some (owner, n))
    (ha : argsOk id ⟨.ref x :: rest, []⟩) (hq : Q () s) : wpAny M A (checkBuiltinCall id ⟨.ref x :: rest, []⟩) Q E s := by
  simp only [checkBuiltinCall, hk, hs]
  have S : Looks M s.heap (isInstance (.ref x) (.type owner)) true := (I.type).andThen (looks_subIn X ho)
  refine wpAny_bind (S.here ?_)
  simp only [Bool.not_true, Bool.false_eq_true, if_false]
  cases hsig : Manifest.signature? id with
  | none => first | exact wpAny_pure hq | exact wpAny_bind (wpAny_pure hq)
  | some sig =>
    simp only [argsOk, hsig] at ha
    have h2 : Bind.checkArgs id sig ⟨.ref x :: rest, []⟩ = pure () := ha
    show wpAny M A (Bind.checkArgs id sig ⟨.ref x :: rest, []⟩) Q E _
    rw [h2]; exact wpAny_pure hq
theorem kh_ne {Q : Value → Shared → Prop} (hu : A.units < cLine) (hu1 : A.in1.units < cLine) (F0 : Fr h₀ L s.heap m) (X₀ : K.In h₀) (I : InstAt s.heap x ox C od) (hb : Looks (model prog w) s.heap (typeOf b) tb) (hn : notFirst K C tb = true)
    (hne : findIn K (.ref C) "__ne__" = some (some (.builtin "object.__ne__"))) (ho : subIn K (.ref C) (.type "object") = some true)
    (hs : findIn K (.ref C) "__eq__" = some (some (.ref f))) (hf : isFn K (.ref f) = true)
    (h : wpAny (model prog w) A.in1 (call (.ref f) [.ref x, b]) (fun v s' => ∃ r, v = .bool r ∧ Q (.bool (!r)) s') E s) : wpAny (model prog w) A (richCompare .NotEq (.ref x) b) Q E s := by
  have X := X₀.keeps F0.keep
  have one : wpAny (model prog w) A (tryCompare (.ref x) "__ne__" b) (fun r s' => ∃ v, r = some v ∧ Q v s') E s := by
    unfold tryCompare
    refine wpAny_bind (kh_ifBoundB X I hne F.cmp_object.ne.bind (wpAny_call (codeAny_call_builtin F.cmp_object.ne.plain F.cmpEntry_ne (kh_check X I ho F.cmpKind_ne F.cmpSplit_ne (F.cmpArgs_ne _ _) ?_))))
    unfold Builtin.«object.__ne__»
    repeat (first
      | with_reducible refine wpAny_cRoomFor hu1 ?_
      | (refine wpAny_bind (m := callSpecialIfBound? (.ref x) (Str.ofString "__eq__") [b]) (ifBound_K X I hs hf (wpAny_mono h (fun r s' hr => ?_) fun _ _ e => e)))
      | wp_step)
    obtain ⟨r, rfl, hq⟩ := hr
    repeat (first | exact hq | exact wpAny_pure hq | exact wpAny_truthy_bool hq | (refine wpAny_bind (m := truthy (.bool _)) (wpAny_truthy_bool ?_)) | wp_step)
    all_goals first | exact ⟨_, rfl, hq⟩ | exact wpAny_pure ⟨_, rfl, hq⟩ | skip
  unfold richCompare
  simp only [oneThing_ref]
  refine wpAny_holding (wpAny_bind (wpAny_cRoomFor hu ?_))
  refine wpAny_bind (I.type.here (wpAny_bind (hb.here ?_)))
  rw [cmpInfo_NotEq]
  dsimp only
  split
  · rename_i q
    have e : subIn K tb (.ref C) = some false := by
      rcases Bool.or_eq_true_iff.mp hn with e | e
      · rw [beq_iff_eq.mp e] at q; simp at q
      · exact beq_iff_eq.mp e
    refine wpAny_bind ((looks_subIn X e).here ?_)
    simp only [Bool.false_eq_true, if_false]
    refine wpAny_bind (wpAny_mono one (fun r s' z => ?_) fun _ _ e => e)
    obtain ⟨v, rfl, hq⟩ := z
    exact wpAny_pure hq
  · refine wpAny_bind (wpAny_pure ?_)
    simp only [Bool.false_eq_true, if_false]
    refine wpAny_bind (wpAny_mono one (fun r s' z => ?_) fun _ _ e => e)
    obtain ⟨v, rfl, hq⟩ := z
    exact wpAny_pure hq
end
end PySem.W

set_option maxRecDepth 100000
set_option maxHeartbeats 2000000
/-! own operators of a class; defs whose promise wants that no repr is under way -/
namespace Kh
open PySem PySem.Spec PyProof.Rows L2
/-- a def's promise, where no repr is under way -/
structure FnG (P : Program) (w : World) (K : PySem.W.Frag) (mg : Str → Option Value) (base : Heap) (k : Nat) (f : Addr) (fd : FuncData) (ps : List Str) (sp : Sp) : Prop where
  len : ∀ vs H Q E, sp vs H Q E → vs.length = ps.length
  run : ∀ (A : Around) (outer : List Env) (s : Shared) (H : Hp) (args : Args) (us : List Value) (vs : List V) (Q : VK) (E : XK), A.guards = some [] → Room k A → Env0 P w K mg base A outer s H → BindsTo s fd args (ps.zip us) → Vals vs us → sp vs H Q E →
    codeAny (model P w) A (.call (.ref f) args) (CR CX0 outer P w H s Q E) s
section
variable {P : Program} {w : World} {K : PySem.W.Frag} {mg : Str → Option Value} {base : Heap}
theorem FnG.of {k : Nat} {f : Addr} {fd : FuncData} {ps : List Str} {sp : Sp} (F : FnOk P w K mg base CX0 k f fd ps sp) : FnG P w K mg base k f fd ps sp := ⟨F.len, fun A outer s H args us vs Q E _ => F.run A outer s H args us vs Q E⟩
theorem FnG.mono {j k : Nat} {f : Addr} {fd : FuncData} {ps : List Str} {sp : Sp} (F : FnG P w K mg base j f fd ps sp) (h : j ≤ k) : FnG P w K mg base k f fd ps sp := ⟨F.len, fun A outer s H args us vs Q E hg hr => F.run A outer s H args us vs Q E hg (hr.mono h)⟩
/-- the rule for a def, as Fun.ok -/
theorem fun_okG {x qual : Str} {st : Stmt} {f : Addr} {fd : FuncData} {N ps : List Str} {k : Nat} {sp : Sp} (F : Fun K x qual st f fd) (S : FnScope N ps (defScope st)) (len : ∀ vs H Q E, sp vs H Q E → vs.length = ps.length)
    (hbody : ∀ (cdv : Value) (A : Around) (outer : List Env) (s : Shared) (H : Hp) (vs : List V) (Q : VK) (E : XK), (A.deeper (envOfC qual (defScope st) s.heap.objs.size f cdv)).guards = some [] → Room k (A.deeper (envOfC qual (defScope st) s.heap.objs.size f cdv)) → sp vs H Q E →
      ∃ t, PSs (cxOf CX0 P w K mg base N qual (defScope st) f cdv A outer s H E).nox (defBody st) t ∧ t { nx := fun _ H' => Q .non H', rt := Q } (start N vs) H) : FnG P w K mg base (k + 1) f fd ps sp := by
  obtain ⟨oc, od, kV, doc, pm, an, cdv, ct, osl, rfl, lk, hcd⟩ := F.ex
  refine ⟨len, fun A outer s H args us vs Q E hg hr z0 hb r hsp => ?_⟩
  have hlen := len _ _ _ _ hsp
  have KI : K.In s.heap := z0.mod.kin.keeps fun b o e => (z0.bs b o e).1
  have noL : s.heap.NoLimit := z0.mod.nolimit.keeps fun b o e => (z0.bs b o e).1
  have kinds : ∀ y ∈ ps.zip us, (defScope st).names.lookup y.1 = some .local ∨ ((defScope st).names.lookup y.1 = some .cell ∧ ((cellsFrom (s.heap.objs.size + 1) (defScope st).names []).lookup y.1).isSome = true) := by
    rintro ⟨n, v⟩ hy
    rcases S.par n (List.of_mem_zip hy).1 with c | c
    · exact Or.inl c
    · exact Or.inr ⟨c, PySem.W.cellsFrom_some _ _ _ (Or.inl c)⟩
  refine codeAny_call_function hr.depth (KI _ _ lk) rfl S.co S.gen rfl (PySem.W.codeRec_of KI hcd) (hb _ _ _ _ ?_)
  refine wpAny_newFunctionEnv_cells S.kind kinds fun env ev s1 xc => ?_
  subst ev
  refine ⟨noL.keeps xc.toInCall.keep, codeAny_func ?_⟩
  obtain ⟨t, ht, hq⟩ := hbody cdv A outer s H vs Q E hg (hr.deeper _) hsp
  have start0 : Inv (cxOf CX0 P w K mg base N qual (defScope st) f cdv A outer s H E) [] (start N vs) H s1 := inv_start S hr.hd z0 hlen r xc
  refine wpAny_mono (ht.nox.run [] s1 (start N vs) H _ start0 hq) (fun fl s' hs => ?_) fun e s' hs => hs
  have ended : ∀ {ρ : L2.St} {H2 : Hp} {v : V} {u : Value}, Inv (cxOf CX0 P w K mg base N qual (defScope st) f cdv A outer s H E) [] ρ H2 s' → RelV v u → Q v H2 → CE outer P w H s Q u s' :=
    fun {ρ H2 v u} J rv q => ⟨v, H2, J.os, J.bare, J.base, J.hok, rv, q⟩
  cases fl with
  | ret u =>
    obtain ⟨v, ρ, H2, J, rv, q⟩ := hs
    exact ended J rv q
  | next =>
    obtain ⟨ρ, H2, J, q⟩ := hs
    exact ended (v := V.non) (u := Value.none) J rfl q
  | brk => obtain ⟨_, _, _, q⟩ := hs; exact q.elim
  | cont => obtain ⟨_, _, _, q⟩ := hs; exact q.elim
end
/-- the callee can be run from this body, at every state below it -/
def Runs (X : Cx) (k : Nat) (f : Addr) (sp : Sp) : Prop := ∀ (A : Around) (pins : List (Addr × Obj)) (σ : L2.St) (H : Hp) (s : Shared) (us : List Value) (vs : List V) (Q : VK) (E' : Value → Shared → Prop), A.frames = X.A.frames → A.guards = X.A.guards → Room k A →
  Inv X pins σ H s → Vals vs us → sp vs H Q E0 → wpAny (model X.prog X.w) A (call (.ref f) us) (EP X pins σ Q) E' s
section
variable {X : Cx} {k : Nat} {f : Addr} {fd : FuncData} {ps : List Str} {sp : Sp}
theorem runsG (F : FnG X.prog X.w X.K X.mg X.base k f fd ps sp) (hg : X.A.guards = some []) (hb : Binds X.K fd ps []) : Runs X k f sp := by
  intro A pins σ H s us vs Q E' fr gd hr I r h
  have hl : us.length = ps.length := by rw [← r.length]; exact F.len _ _ _ _ h
  have e0 : Env0 X.prog X.w X.K X.mg X.base A X.stack s H := by
    have e := I.env0
    exact ⟨by rw [fr]; exact e.frames, e.mod, e.bs, e.bsz, e.funs, e.frf, e.hok, e.bare⟩
  refine wpAny_call (codeAny_mono (F.run A X.stack s H ⟨us, []⟩ us vs Q E0 (gd.trans hg) hr e0 (by simpa using hb s us I.kIn (by simpa using hl)) r h) fun r s' hq => ?_)
  cases r with
  | error e => exact (show False from hq).elim
  | ok fl =>
    cases fl with
    | ret w => exact I.after hq
    | next => exact (show False from hq).elim
    | brk => exact (show False from hq).elim
    | cont => exact (show False from hq).elim
theorem runsOk (F : FnOk X.prog X.w X.K X.mg X.base CX0 k f fd ps sp) (hb : Binds X.K fd ps []) : Runs X k f sp := by
  intro A pins σ H s us vs Q E' fr gd hr I r h
  have hl : us.length = ps.length := by rw [← r.length]; exact F.len _ _ _ _ h
  have e0 : Env0 X.prog X.w X.K X.mg X.base A X.stack s H := by
    have e := I.env0
    exact ⟨by rw [fr]; exact e.frames, e.mod, e.bs, e.bsz, e.funs, e.frf, e.hok, e.bare⟩
  refine wpAny_call (codeAny_mono (F.run A X.stack s H ⟨us, []⟩ us vs Q E0 hr e0 (by simpa using hb s us I.kIn (by simpa using hl)) r h) fun r s' hq => ?_)
  cases r with
  | error e => exact (show False from hq).elim
  | ok fl =>
    cases fl with
    | ret w => exact I.after hq
    | next => exact (show False from hq).elim
    | brk => exact (show False from hq).elim
    | cont => exact (show False from hq).elim
theorem Runs.imp {sp' : Sp} (R : Runs X k f sp) (h : ∀ vs H Q, sp' vs H Q E0 → sp vs H Q E0) : Runs X k f sp' := fun A pins σ H s us vs Q E' fr gd hr I r q => R A pins σ H s us vs Q E' fr gd hr I r (h _ _ _ q)
/-- f(..) of such a def -/
theorem pe_callG {p pos : Pos} {x : Str} {e : Expr} {es : List Expr} {t : TA} (R : Runs X k f sp) (hr : Room k X.A) (hg : Gl X x) (hm : X.mg x = some (.ref f)) (hk : PySem.W.keepIn X.K (.ref f) = true) (ha : PA X (e :: es) t)
    (hdb : (x == ("__debug__" : Str)) = false := by decide) (he : starEach (e :: es) X.env = (false, eval e X.env) :: starEach es X.env := by rfl) (hpl : (backTo pos (starEach es X.env)).any (·.1) = false := by rfl) :
    PE X (.Call (.Name x p) (e :: es) [] pos) (tCall sp [] E0 t) := by
  refine ⟨fun pins s σ H Q I h => ?_⟩
  have h' : t σ H fun vs H1 => sp vs H1 Q E0 := by
    have e : (fun (vs : List V) (H1 : Hp) => sp (vs ++ []) H1 Q E0) = fun vs H1 => sp vs H1 Q E0 := by funext vs H1; rw [List.append_nil]
    rw [← e]; exact h
  refine wpAny_Call_Name_kw (ld_glob I hg hm ?_ hdb)
  refine PySem.W.callWith_K (h₀ := X.base) I.ok.mod.kin hk (thn (ha.run pos pins s σ H _ I h') fun us s1 ⟨vs, H1, I1, r, q⟩ => ⟨I1.kIn, ?_⟩) he hpl
  exact R X.A pins σ H1 s1 us vs Q X.xe rfl rfl hr I1 r q
/-! own operators -/
def isI (H : Hp) (C : Addr) (x : V) : Prop := ∃ a dx fs, x = .ref a ∧ H a = some (.ins C dx fs)
def rLenI (C : Addr) (sp : Sp) : List V → Hp → VK → Prop := fun xs H Q => ∃ x, xs = [x] ∧ isI H C x ∧ sp [x] H (fun v H' => ∃ n : Nat, v = .int n ∧ n < 2 ^ 62 ∧ Q (.int n) H') E0
theorem call_lenI {C : Addr} (R : Runs X k f sp) (hr : Room (k + 1) X.A) (M : Meth X.K C "__len__" f) : CallR X (.builtin "len") (rLenI C sp) := by
  intro pins s σ H xs us Q I r h
  obtain ⟨_, rfl, ⟨a, dx, fs, rfl, ha⟩, hs⟩ := h
  obtain ⟨u, rfl, ru⟩ := r.one
  cases ru
  obtain ⟨mA, J, _⟩ := ins_get I.hok ha
  obtain ⟨od, J, _⟩ := J.look
  obtain ⟨m, hF⟩ := I.fr
  refine PySem.W.len_K hF I.ok.mod.kin J M.at_ M.fn (wpAny_mono (R X.A.in1 pins σ H s [.ref a] [.ref a] _ X.xe rfl rfl hr.in1 I (.cons rfl .nil) hs) (fun r s' q => ?_) fun _ _ z => z)
  obtain ⟨v, H', I', rv, n, rfl, hn, q⟩ := q
  obtain ⟨tk, rfl⟩ := rv
  exact ⟨⟨by omega, by omega⟩, .int n, H', I'.tok _, ⟨_, rfl⟩, q⟩
def rInI (C : Addr) (sp : Sp) : R2 := fun x y H Q => isI H C y ∧ sp [y, x] H (fun v H' => ∃ b, v = .bl b ∧ Q (.bl b) H') E0
theorem op_inI {C : Addr} (R : Runs X k f sp) (hr : Room k X.A) (M : Meth X.K C "__contains__" f) : OpR X (compareOp .In) (rInI C sp) := by
  intro pins s σ H x y v u Q I rx ry h
  obtain ⟨⟨a, dx, fs, rfl, ha⟩, hs⟩ := h
  cases ry
  obtain ⟨mA, J, _⟩ := ins_get I.hok ha
  obtain ⟨od, J, _⟩ := J.look
  obtain ⟨m, hF⟩ := I.fr
  refine PySem.W.in_K hF I.ok.mod.kin J M.at_ M.fn (wpAny_mono (R X.A pins σ H s [.ref a, v] [.ref a, x] _ X.xe rfl rfl hr I (.cons rfl (.cons rx .nil)) hs) (fun r s' q => ?_) fun _ _ z => z)
  obtain ⟨z, H', I', rv, b, rfl, q⟩ := q
  cases rv
  exact wpAny_truthy_bool ⟨.bl b, H', I', rfl, q⟩
def rUnI (C : Addr) (sp : Sp) : V → Hp → VK → Prop := fun x H Q => isI H C x ∧ sp [x] H Q E0
theorem un_invI {C : Addr} (R : Runs X k f sp) (hr : Room k X.A) (M : Meth X.K C "__invert__" f) : UnR X (unaryOp .Invert) (rUnI C sp) := by
  intro pins s σ H x v Q I rx h
  obtain ⟨⟨a, dx, fs, rfl, ha⟩, hs⟩ := h
  cases rx
  obtain ⟨mA, J, _⟩ := ins_get I.hok ha
  obtain ⟨od, J, _⟩ := J.look
  obtain ⟨m, hF⟩ := I.fr
  exact PySem.W.ksp_inv hF I.ok.mod.kin J M.at_ M.fn (R X.A pins σ H s [.ref a] [.ref a] _ X.xe rfl rfl hr I (.cons rfl .nil) hs)
def notNI : V → Prop := fun _ => True
/-- an operator of two objects of the class -/
def rBinI (C : Addr) (sp : Sp) : R2 := fun x y H Q => isI H C x ∧ isI H C y ∧ sp [x, y] H Q E0
theorem back_of {Q : VK} {pins : List (Addr × Obj)} {σ : L2.St} {v : Value} {s' : Shared} (h : EP X pins σ Q v s') : PySem.W.CmpBack (EP X pins σ Q) v s' := by
  cases v <;> first | exact h | skip
  obtain ⟨v, H', I', rv, q⟩ := h
  cases v <;> first | (cases rv; done) | (obtain ⟨_, rv⟩ := rv; cases rv; done) | (exact (nomatch rv))
theorem op_binI {C : Addr} {op : Operator} (R : Runs X k f sp) (hr : Room k X.A) (hc : PySem.W.selfFirst X.K C = true) (M : Meth X.K C (PySem.dunder op.info.2) f) : OpR X (binaryOp op) (rBinI C sp) := by
  intro pins s σ H x y v u Q I rx ry h
  obtain ⟨⟨a, dx, fs, rfl, ha⟩, ⟨b, dy, gs, rfl, hb⟩, hs⟩ := h
  cases rx
  cases ry
  obtain ⟨mA, J, _⟩ := ins_get I.hok ha
  obtain ⟨od, J, _⟩ := J.look
  obtain ⟨mB, J2, _⟩ := ins_get I.hok hb
  obtain ⟨od2, J2, _⟩ := J2.look
  obtain ⟨m, hF⟩ := I.fr
  exact PySem.W.binop_K hF I.ok.mod.kin J J2.type hc M.at_ M.fn (wpAny_mono (R X.A pins σ H s [.ref a, .ref b] [.ref a, .ref b] _ X.xe rfl rfl hr I (.cons rfl (.cons rfl .nil)) hs) (fun r s' q => back_of q) fun _ _ z => z)
/-- an own ==: the other one of any type that is told -/
def tyOk (K : PySem.W.Frag) (H : Hp) (C : Addr) (y : V) : Prop := isI H C y ∨ (∃ n, TyX K H y (.type n) ∧ PySem.W.notFirst K C (.type n) = true)
theorem looks_ty {C : Addr} {pins : List (Addr × Obj)} {σ : L2.St} {H : Hp} {s : Shared} {y : V} {u : Value} (I : Inv X pins σ H s) (ry : RelV y u) (h : tyOk X.K H C y) : ∃ tb, PySem.W.Looks (model X.prog X.w) s.heap (typeOf u) tb ∧ PySem.W.notFirst X.K C tb = true := by
  rcases h with ⟨b, dy, gs, rfl, hb⟩ | ⟨n, ty, hn⟩
  · cases ry
    obtain ⟨mB, J2, _⟩ := ins_get I.hok hb
    obtain ⟨od2, J2, _⟩ := J2.look
    exact ⟨.ref C, J2.type, by simp [PySem.W.notFirst]⟩
  · obtain ⟨P, Z, p, _⟩ := kit_of I ry ty
    exact ⟨.type n, Z.ty _ _ I.kIn p, hn⟩
def rEqI (C : Addr) (K : PySem.W.Frag) (sp : Sp) : R2 := fun x y H Q => isI H C x ∧ tyOk K H C y ∧ sp [x, y] H Q E0
theorem op_eqI {C : Addr} (R : Runs X k f sp) (hr : Room k X.A) (M : Meth X.K C "__eq__" f) : OpR X (compareOp .Eq) (rEqI C X.K sp) := by
  intro pins s σ H x y v u Q I rx ry h
  obtain ⟨⟨a, dx, fs, rfl, ha⟩, ty, hs⟩ := h
  cases rx
  obtain ⟨mA, J, _⟩ := ins_get I.hok ha
  obtain ⟨od, J, _⟩ := J.look
  obtain ⟨m, hF⟩ := I.fr
  obtain ⟨tb, hb, hn⟩ := looks_ty I ry ty
  exact PySem.W.cmp_K (op := .Eq) hr.units0 hF I.ok.mod.kin J hb hn M.at_ M.fn (wpAny_mono (R X.A pins σ H s [.ref a, u] [.ref a, y] _ X.xe rfl rfl hr I (.cons rfl (.cons ry .nil)) hs) (fun r s' q => back_of q) fun _ _ z => z)
def rNeI (C : Addr) (K : PySem.W.Frag) (sp : Sp) : R2 := fun x y H Q => isI H C x ∧ tyOk K H C y ∧ sp [x, y] H (fun v H' => ∃ b, v = .bl b ∧ Q (.bl (!b)) H') E0
theorem op_neI {C : Addr} (R : Runs X k f sp) (hr : Room (k + 1) X.A) (M : Meth X.K C "__eq__" f) (hne : PySem.W.findIn X.K (.ref C) "__ne__" = some (some (.builtin "object.__ne__"))) (ho : PySem.W.subIn X.K (.ref C) (.type "object") = some true) :
    OpR X (compareOp .NotEq) (rNeI C X.K sp) := by
  intro pins s σ H x y v u Q I rx ry h
  obtain ⟨⟨a, dx, fs, rfl, ha⟩, ty, hs⟩ := h
  cases rx
  obtain ⟨mA, J, _⟩ := ins_get I.hok ha
  obtain ⟨od, J, _⟩ := J.look
  obtain ⟨m, hF⟩ := I.fr
  obtain ⟨tb, hb, hn⟩ := looks_ty I ry ty
  refine PySem.W.kh_ne hr.units0 hr.in1.units0 hF I.ok.mod.kin J hb hn hne ho M.at_ M.fn (wpAny_mono (R X.A.in1 pins σ H s [.ref a, u] [.ref a, y] _ X.xe rfl rfl hr.in1 I (.cons rfl (.cons ry .nil)) hs) (fun r s' q => ?_) fun _ _ z => z)
  obtain ⟨z, H', I', rv, b, rfl, q⟩ := q
  cases rv
  exact ⟨b, rfl, .bl (!b), H', I', rfl, q⟩
def rReprI (C : Addr) (sp : Sp) : List V → Hp → VK → Prop := fun xs H Q => ∃ x, xs = [x] ∧ isI H C x ∧ sp [x] H (fun v H' => ∃ y, v = .str y ∧ Q (.str y) H') E0
theorem call_reprI {C : Addr} (R : Runs X k f sp) (hr : Room (k + 1) X.A) (M : Meth X.K C "__repr__" f) : CallR X (.builtin "repr") (rReprI C sp) := by
  intro pins s σ H xs us Q I r h
  obtain ⟨_, rfl, ⟨a, dx, fs, rfl, ha⟩, hs⟩ := h
  obtain ⟨u, rfl, ru⟩ := r.one
  cases ru
  obtain ⟨mA, J, _⟩ := ins_get I.hok ha
  obtain ⟨od, J, _⟩ := J.look
  obtain ⟨m, hF⟩ := I.fr
  refine PySem.W.repr_K hr.in1.units0 hF I.ok.mod.kin J M.at_ M.fn (wpAny_mono (R X.A.in1 pins σ H s [.ref a] [.ref a] _ X.xe rfl rfl hr.in1 I (.cons rfl .nil) hs) (fun r s' q => ?_) fun _ _ z => z)
  obtain ⟨v, H', I', rv, n, rfl, q⟩ := q
  obtain ⟨tk, rfl⟩ := rv
  exact ⟨.str n, H', I', ⟨_, rfl⟩, q⟩
end
end Kh

set_option maxRecDepth 100000
set_option maxHeartbeats 2000000
/-! data that can be told and compared -/
namespace Kh
open PySem PySem.Spec PyProof.Rows L2
/-- short, not deep, no dict -/
structure Nice (n m : Nat) (d : PyData) : Prop where
  sh : d.leavesShort 8 = true
  wt : d.weight ≤ n
  dp : d.depth ≤ m
  sw : d.showable = true
  nd : d.hasDict = false
  cl : d.canLay0 = true
structure NiceA (n m : Nat) (ds : List PyData) : Prop where
  sh : PyData.leavesShortAll 8 ds = true
  wt : PyData.weightAll ds ≤ n
  dp : PyData.depthAll ds ≤ m
  sw : PyData.showableAll ds = true
  nd : PyData.hasDictAll ds = false
  cl : PyData.canLayAll0 ds = true
theorem Nice.mono {n m n' m' : Nat} {d : PyData} (h : Nice n m d) (hn : n ≤ n') (hm : m ≤ m') : Nice n' m' d := ⟨h.sh, Nat.le_trans h.wt hn, Nat.le_trans h.dp hm, h.sw, h.nd, h.cl⟩
theorem NiceA.mono {n m n' m' : Nat} {d : List PyData} (h : NiceA n m d) (hn : n ≤ n') (hm : m ≤ m') : NiceA n' m' d := ⟨h.sh, Nat.le_trans h.wt hn, Nat.le_trans h.dp hm, h.sw, h.nd, h.cl⟩
theorem nice_none : Nice 0 0 .none := ⟨by simp [PyData.leavesShort], by simp [PyData.weight], by simp [PyData.depth], by simp [PyData.showable], by simp [PyData.hasDict], by simp [PyData.canLay0]⟩
theorem nice_bool (b : Bool) : Nice 0 0 (.bool b) := ⟨by simp [PyData.leavesShort], by simp [PyData.weight], by simp [PyData.depth], by simp [PyData.showable], by simp [PyData.hasDict], by simp [PyData.canLay0]⟩
def smallI (n : Nat) : Bool := decide ((PyData.shown (.int (n : Nat))).length ≤ 8) && (PyData.shown (.int (n : Nat))).cps.toList.all (fun c => decide (c < 1114112)) && decide (((n : Nat) : Int).natAbs.log2 < 100)
theorem small_all : ((List.range 256).all smallI) = true := by decide +kernel
theorem small_one {n : Nat} (h : n < 256) : smallI n = true := (List.all_eq_true.mp small_all) n (List.mem_range.mpr h)
theorem nice_int {n : Nat} (h : n < 256) : Nice 100 0 (.int (n : Nat)) := by
  have q := small_one h
  unfold smallI at q
  obtain ⟨q1, q3⟩ := Bool.and_eq_true_iff.mp q
  obtain ⟨q1, q2⟩ := Bool.and_eq_true_iff.mp q1
  have q3 := of_decide_eq_true q3
  refine ⟨by rw [PyData.leavesShort]; exact q1, ?_, by simp [PyData.depth], ?_, by simp [PyData.hasDict], by simp [PyData.canLay0]⟩
  · rw [PyData.weight]; split <;> omega
  · rw [PyData.showable]; exact decide_eq_true (Nat.lt_of_lt_of_le q3 (by decide))
theorem nice_str {x : Str} {n : Nat} (h1 : ∀ c ∈ x.cps.toList, c < 1114112) (h2 : x.cps.size ≤ n) (h3 : PyData.strOk x = true) : Nice n 0 (.str x) :=
  ⟨by rw [PyData.leavesShort, List.all_eq_true]; exact fun c hc => decide_eq_true (Nat.lt_of_lt_of_le (h1 c hc) (by decide)), by rw [PyData.weight]; exact h2, by simp [PyData.depth], by simp [PyData.showable], by simp [PyData.hasDict], by rw [PyData.canLay0]; exact h3⟩
theorem niceA_nil : NiceA 0 0 [] := ⟨by simp [PyData.leavesShortAll], by simp [PyData.weightAll], by simp [PyData.depthAll], by simp [PyData.showableAll], by simp [PyData.hasDictAll], by simp [PyData.canLayAll0]⟩
theorem niceA_cons {n n' m : Nat} {d : PyData} {ds : List PyData} (h : Nice n m d) (t : NiceA n' m ds) : NiceA (n + 1 + n') m (d :: ds) := by
  refine ⟨?_, ?_, ?_, ?_, ?_, ?_⟩
  · rw [PyData.leavesShortAll, h.sh, t.sh]; rfl
  · rw [PyData.weightAll]; have := h.wt; have := t.wt; omega
  · rw [PyData.depthAll]; exact Nat.max_le.mpr ⟨h.dp, t.dp⟩
  · rw [PyData.showableAll, h.sw, t.sw]; rfl
  · rw [PyData.hasDictAll, h.nd, t.nd]; rfl
  · rw [PyData.canLayAll0, h.cl, t.cl]; rfl
theorem nice_list {n m : Nat} {ds : List PyData} (h : NiceA n m ds) : Nice n (m + 1) (.list ds) :=
  ⟨by rw [PyData.leavesShort]; exact h.sh, by rw [PyData.weight]; exact h.wt, by rw [PyData.depth]; exact Nat.succ_le_succ h.dp, by rw [PyData.showable]; exact h.sw, by rw [PyData.hasDict]; exact h.nd, by rw [PyData.canLay0]; exact h.cl⟩
theorem nice_tup {n m : Nat} {ds : List PyData} (h : NiceA n m ds) : Nice n (m + 1) (.tuple ds) :=
  ⟨by rw [PyData.leavesShort]; exact h.sh, by rw [PyData.weight]; exact h.wt, by rw [PyData.depth]; exact Nat.succ_le_succ h.dp, by rw [PyData.showable]; exact h.sw, by rw [PyData.hasDict]; exact h.nd, by rw [PyData.canLay0]; exact h.cl⟩
theorem nice_sq {n m : Nat} {b : Bool} {ds : List PyData} (h : NiceA n m ds) : Nice n (m + 1) (sq b ds) := by
  cases b with
  | true => exact nice_tup h
  | false => exact nice_list h
theorem niceA_map {α : Type} {f : α → PyData} {g : α → Nat} {m : Nat} : ∀ l : List α, (∀ x ∈ l, Nice (g x) m (f x)) → NiceA ((l.map fun x => g x + 1).sum) m (l.map f)
  | [], _ => niceA_nil.mono (Nat.le_refl _) (Nat.zero_le _)
  | x :: l, h => by
    have h1 := niceA_cons (h x List.mem_cons_self) (niceA_map l fun y hy => h y (List.mem_cons_of_mem _ hy))
    rw [List.map_cons, List.map_cons, List.sum_cons]; exact h1
theorem Nice.fits {n m : Nat} {d : PyData} (h : Nice n m d) (hn : n ≤ 1000000) : d.shown.length ≤ sizeLine := PyData.shown_fits (B := 8) (by decide) (by decide) h.sh (Nat.le_trans h.wt (Nat.le_trans hn (by decide)))
theorem Nice.shaped {n m : Nat} {d : PyData} (h : Nice n m d) (hm : m ≤ 64) : SeqAt.shaped d = true := by
  unfold SeqAt.shaped
  rw [h.cl, decide_eq_true (Nat.le_trans h.dp hm)]; rfl
/-- trees -/
theorem nice_tree : ∀ (t : T) (d : Nat), Wf t → (∀ n ∈ lv t, n < 24) → dep t ≤ d → (lv t).length ≤ 100 → Nice (siz t * 300) (2 * d) (tD t) := by
  intro t
  refine T.ind (P := fun t => ∀ d, Wf t → (∀ n ∈ lv t, n < 24) → dep t ≤ d → (lv t).length ≤ 100 → Nice (siz t * 300) (2 * d) (tD t)) (fun n d wf _ _ _ => ?_) (fun b k ps ih d wf hl dp hlen => ?_) t
  · rw [tD_leaf]
    have : n < 24 := by rw [Wf] at wf; exact wf
    exact (nice_int (by omega)).mono (by rw [siz]; omega) (Nat.zero_le _)
  · cases d with
    | zero => exact absurd dp (dep_gate0 b k ps)
    | succ d =>
      obtain ⟨k1, k2, wfs⟩ := (wf_gate b k ps).mp wf
      have dps := (dep_gate b k ps).mp dp
      rw [lv_gate] at hl hlen
      have lp : ∀ p ∈ ps, ∀ n ∈ lv p, n ∈ ps.flatMap lv := fun p hp n hn => List.mem_flatMap.mpr ⟨p, hp, hn⟩
      have ll : ∀ p ∈ ps, (lv p).length ≤ (ps.flatMap lv).length := fun p hp => by
        obtain ⟨s, t, rfl⟩ := List.append_of_mem hp
        rw [List.flatMap_append, List.flatMap_cons, List.length_append, List.length_append]; omega
      have pos : ∀ t, Wf t → 1 ≤ (lv t).length := T.ind (fun n _ => by rw [lv_leaf]; exact Nat.le_refl _) fun b k ps ih h => by
        obtain ⟨h1, h2, h3⟩ := (wf_gate b k ps).mp h
        cases ps with
        | nil => simp at h2; omega
        | cons p r =>
          rw [lv_gate, List.flatMap_cons, List.length_append]
          have := ih p List.mem_cons_self (h3 p List.mem_cons_self)
          omega
      have len : ∀ qs : List T, (∀ p ∈ qs, p ∈ ps) → qs.length ≤ (qs.flatMap lv).length := by
        intro qs
        induction qs with
        | nil => intro _; exact Nat.zero_le _
        | cons p r ih2 =>
          intro hq
          rw [List.flatMap_cons, List.length_append, List.length_cons]
          have h1 := pos p (wfs p (hq p List.mem_cons_self))
          have h2 := ih2 fun q h => hq q (List.mem_cons_of_mem _ h)
          omega
      have hlen2 := len ps fun p h => h
      have sumE : ∀ qs : List T, (qs.map fun x => siz x * 300 + 1).sum = sizs qs * 300 + qs.length := by
        intro qs
        induction qs with
        | nil => simp [sizs]
        | cons p r ih2 => rw [List.map_cons, List.sum_cons, ih2, sizs, List.length_cons, Nat.add_mul]; omega
      have parts := niceA_map (f := tD) (g := fun p => siz p * 300) (m := 2 * d) ps fun p hp => ih p hp d (wfs p hp) (fun n hn => hl n (lp p hp n hn)) (dps p hp) (Nat.le_trans (ll p hp) hlen)
      rw [sumE] at parts
      rw [tD_gate]
      have h1 := (nice_str (x := "of") (n := 2) (by decide) (by decide) (by decide +kernel)).mono (Nat.le_refl 2) (Nat.zero_le (2 * d + 1))
      have h2 := (nice_int (n := k) (by omega)).mono (Nat.le_refl 100) (Nat.zero_le (2 * d + 1))
      have all := niceA_cons h1 (niceA_cons h2 (niceA_cons (nice_sq (b := b) parts) (niceA_nil.mono (Nat.le_refl 0) (Nat.zero_le (2 * d + 1)))))
      have e : siz (.gate b k ps) = 1 + sizs ps := by rw [siz]
      refine (nice_tup all).mono ?_ (by omega)
      rw [e]; omega
/-! what is told has ordinary signs -/
def okS (x : Str) : Prop := ∀ c ∈ x.cps.toList, c < 1114112
theorem okS_ok {x : Str} (h : okS x) : PyData.strOk x = true := by
  unfold PyData.strOk
  rw [Array.all_eq_true]
  intro i hi
  exact decide_eq_true (h _ (by rw [← Array.getElem_toList hi]; exact List.getElem_mem _))
theorem nice_okS {x : Str} {n : Nat} (h : okS x) (h2 : x.cps.size ≤ n) : Nice n 0 (.str x) := nice_str h h2 (okS_ok h)
theorem okS_app {x y : Str} (h : okS x) (g : okS y) : okS (x ++ y) := fun c hc => by
  rw [show (x ++ y).cps = x.cps ++ y.cps from rfl, Array.toList_append] at hc
  rcases List.mem_append.mp hc with hc | hc
  · exact h c hc
  · exact g c hc
theorem okS_from : ∀ (ts : List Str) (k : Nat) (acc : Str), okS acc → (∀ t ∈ ts, okS t) → okS (textFrom k acc ts)
  | [], _, _, h, _ => h
  | t :: ts, k, acc, h, g => by
    refine okS_from ts (k + 1) _ (okS_app (okS_app h ?_) (g t List.mem_cons_self)) fun u hu => g u (List.mem_cons_of_mem _ hu)
    split
    · show okS ", "; exact (by unfold okS; decide)
    · show okS ""; exact (by unfold okS; decide)
theorem okS_join : ∀ (ts : List Str), (∀ t ∈ ts, okS t) → okS (Str.join ", " ts)
  | [], _ => by unfold okS; decide
  | [x], h => h x List.mem_cons_self
  | x :: y :: r, h => by
    show okS (x ++ (", " : Str) ++ Str.join ", " (y :: r))
    exact okS_app (okS_app (h x List.mem_cons_self) (by unfold okS; decide)) (okS_join (y :: r) fun u hu => h u (List.mem_cons_of_mem _ hu))
theorem okS_list {ts : List Str} (h : ∀ t ∈ ts, okS t) : okS (listText ts) := okS_app (okS_from ts 0 _ (by unfold okS; decide) h) (by unfold okS; decide)
theorem okS_tup {ts : List Str} (h : ∀ t ∈ ts, okS t) : okS (tupleText ts) := by
  unfold tupleText
  refine okS_app (okS_app (by unfold okS; decide) (okS_join ts h)) ?_
  split
  · show okS ",)"; unfold okS; decide
  · show okS ")"; unfold okS; decide
theorem shownAll_mem : ∀ {ds : List PyData} {x : Str}, x ∈ PyData.shownAll ds → ∃ d ∈ ds, x = PyData.shown d
  | [], _, h => by rw [PyData.shownAll] at h; cases h
  | d :: ds, x, h => by
    rw [PyData.shownAll] at h
    rcases List.mem_cons.mp h with rfl | h
    · exact ⟨d, List.mem_cons_self, rfl⟩
    · obtain ⟨e, he, rfl⟩ := shownAll_mem h
      exact ⟨e, List.mem_cons_of_mem _ he, rfl⟩
theorem okS_int {n : Nat} (h : n < 256) : okS (PyData.shown (.int (n : Nat))) := by
  have q := small_one h
  unfold smallI at q
  obtain ⟨q1, q3⟩ := Bool.and_eq_true_iff.mp q
  obtain ⟨q1, q2⟩ := Bool.and_eq_true_iff.mp q1
  exact fun c hc => of_decide_eq_true (List.all_eq_true.mp q2 c hc)
theorem tpos : ∀ t, Wf t → 1 ≤ (lv t).length := T.ind (fun n _ => by rw [lv_leaf]; exact Nat.le_refl _) fun b k ps ih h => by
  obtain ⟨h1, h2, h3⟩ := (wf_gate b k ps).mp h
  cases ps with
  | nil => simp at h2; omega
  | cons p r =>
    rw [lv_gate, List.flatMap_cons, List.length_append]
    have := ih p List.mem_cons_self (h3 p List.mem_cons_self)
    omega
theorem tlen : ∀ ps : List T, (∀ p ∈ ps, Wf p) → ps.length ≤ (ps.flatMap lv).length
  | [], _ => Nat.zero_le _
  | p :: r, h => by
    rw [List.flatMap_cons, List.length_append, List.length_cons]
    have h1 := tpos p (h p List.mem_cons_self)
    have h2 := tlen r fun q hq => h q (List.mem_cons_of_mem _ hq)
    omega
theorem tpart {ps : List T} {p : T} (hp : p ∈ ps) : (lv p).length ≤ (ps.flatMap lv).length := by
  obtain ⟨s, t, rfl⟩ := List.append_of_mem hp
  rw [List.flatMap_append, List.flatMap_cons, List.length_append, List.length_append]; omega
theorem okS_tree : ∀ t : T, Wf t → (lv t).length ≤ 100 → okS (PyData.shown (tD t)) := by
  intro t
  refine T.ind (P := fun t => Wf t → (lv t).length ≤ 100 → okS (PyData.shown (tD t))) (fun n wf _ => ?_) (fun b k ps ih wf hlen => ?_) t
  · rw [tD_leaf]
    have : n < 24 := by rw [Wf] at wf; exact wf
    exact okS_int (by omega)
  · obtain ⟨k1, k2, wfs⟩ := (wf_gate b k ps).mp wf
    rw [lv_gate] at hlen
    have hl := tlen ps wfs
    have parts : ∀ x ∈ PyData.shownAll (ps.map tD), okS x := fun x hx => by
      obtain ⟨d, hd, rfl⟩ := shownAll_mem hx
      obtain ⟨p, hp, rfl⟩ := List.mem_map.mp hd
      exact ih p hp (wfs p hp) (Nat.le_trans (tpart hp) hlen)
    rw [tD_gate, PyData.shown]
    refine okS_tup fun x hx => ?_
    obtain ⟨d, hd, rfl⟩ := shownAll_mem hx
    rcases List.mem_cons.mp hd with rfl | hd
    · rw [PyData.shown]; unfold okS; decide +kernel
    rcases List.mem_cons.mp hd with rfl | hd
    · exact okS_int (by omega)
    rcases List.mem_cons.mp hd with rfl | hd
    · cases b with
      | true => show okS (PyData.shown (.tuple _)); rw [PyData.shown]; exact okS_tup parts
      | false => show okS (PyData.shown (.list _)); rw [PyData.shown]; exact okS_list parts
    · cases hd
/-! equal data of trees -/
theorem eqvAll_refl : ∀ {ds : List PyData}, (∀ d ∈ ds, PyData.eqv d d = true) → PyData.eqvAll ds ds = true
  | [], _ => by rw [PyData.eqvAll]
  | d :: ds, h => by rw [PyData.eqvAll, h d List.mem_cons_self, eqvAll_refl fun e he => h e (List.mem_cons_of_mem _ he)]; rfl
theorem eqv_int (i : Int) : PyData.eqv (.int i) (.int i) = true := by rw [PyData.eqv]; exact beq_self_eq_true i
theorem eqv_str (x : Str) : PyData.eqv (.str x) (.str x) = true := by rw [PyData.eqv]; exact beq_self_eq_true x
theorem eqv_bool (b : Bool) : PyData.eqv (.bool b) (.bool b) = true := by rw [PyData.eqv]; exact beq_self_eq_true b
theorem eqv_list {ds : List PyData} (h : ∀ d ∈ ds, PyData.eqv d d = true) : PyData.eqv (.list ds) (.list ds) = true := by rw [PyData.eqv]; exact eqvAll_refl h
theorem eqv_tup {ds : List PyData} (h : ∀ d ∈ ds, PyData.eqv d d = true) : PyData.eqv (.tuple ds) (.tuple ds) = true := by rw [PyData.eqv]; exact eqvAll_refl h
theorem eqv_tree : ∀ t : T, PyData.eqv (tD t) (tD t) = true := T.ind (fun n => by rw [tD_leaf]; exact eqv_int _) fun b k ps ih => by
  have parts : ∀ d ∈ ps.map tD, PyData.eqv d d = true := fun d hd => by
    obtain ⟨p, hp, rfl⟩ := List.mem_map.mp hd
    exact ih p hp
  rw [tD_gate]
  refine eqv_tup fun d hd => ?_
  rcases List.mem_cons.mp hd with rfl | hd
  · exact eqv_str _
  rcases List.mem_cons.mp hd with rfl | hd
  · exact eqv_int _
  rcases List.mem_cons.mp hd with rfl | hd
  · cases b with
    | true => exact eqv_tup parts
    | false => exact eqv_list parts
  · cases hd
/-- trees that are equal are the same -/
theorem eqv_same : ∀ t u : T, PyData.eqv (tD t) (tD u) = true → t = u := by
  intro t
  refine T.ind (P := fun t => ∀ u, PyData.eqv (tD t) (tD u) = true → t = u) (fun n u h => ?_) (fun b k ps ih u h => ?_) t
  · cases u with
    | leaf m =>
      rw [tD_leaf, tD_leaf, PyData.eqv] at h
      have := beq_iff_eq.mp h
      rw [show n = m by omega]
    | gate b k ps => rw [tD_leaf, tD_gate, PyData.eqv] at h; cases h
  · cases u with
    | leaf m => rw [tD_leaf, tD_gate, PyData.eqv] at h; cases h
    | gate c l qs =>
      rw [tD_gate, tD_gate, PyData.eqv, PyData.eqvAll, PyData.eqvAll, PyData.eqvAll] at h
      obtain ⟨_, h⟩ := Bool.and_eq_true_iff.mp h
      obtain ⟨h1, h⟩ := Bool.and_eq_true_iff.mp h
      obtain ⟨h2, _⟩ := Bool.and_eq_true_iff.mp h
      rw [PyData.eqv] at h1
      have e1 : k = l := by have := beq_iff_eq.mp h1; omega
      have go : ∀ xs ys : List T, (∀ p ∈ xs, ∀ u, PyData.eqv (tD p) (tD u) = true → p = u) → PyData.eqvAll (xs.map tD) (ys.map tD) = true → xs = ys := by
        intro xs
        induction xs with
        | nil =>
          intro ys _ h
          cases ys with
          | nil => rfl
          | cons y ys => rw [List.map_nil, List.map_cons, PyData.eqvAll] at h; cases h
        | cons x xs ih2 =>
          intro ys hx h
          cases ys with
          | nil => rw [List.map_nil, List.map_cons, PyData.eqvAll] at h; cases h
          | cons y ys =>
            rw [List.map_cons, List.map_cons, PyData.eqvAll] at h
            obtain ⟨g1, g2⟩ := Bool.and_eq_true_iff.mp h
            rw [hx x List.mem_cons_self y g1, ih2 ys (fun p hp => hx p (List.mem_cons_of_mem _ hp)) g2]
      cases b with
      | true =>
        cases c with
        | true =>
          have h2' : PyData.eqv (.tuple (ps.map tD)) (.tuple (qs.map tD)) = true := h2
          rw [PyData.eqv] at h2'
          rw [e1, go ps qs ih h2']
        | false =>
          have h2' : PyData.eqv (.tuple (ps.map tD)) (.list (qs.map tD)) = true := h2
          rw [PyData.eqv] at h2'; cases h2'
      | false =>
        cases c with
        | true =>
          have h2' : PyData.eqv (.list (ps.map tD)) (.tuple (qs.map tD)) = true := h2
          rw [PyData.eqv] at h2'; cases h2'
        | false =>
          have h2' : PyData.eqv (.list (ps.map tD)) (.list (qs.map tD)) = true := h2
          rw [PyData.eqv] at h2'
          rw [e1, go ps qs ih h2']
open Classical in
noncomputable def sameT (t u : T) : Bool := decide (t = u)
open Classical in
theorem eqv_sameT (t u : T) : PyData.eqv (tD t) (tD u) = sameT t u := by
  unfold sameT
  by_cases q : t = u
  · subst q; rw [eqv_tree, decide_eq_true rfl]
  · rw [decide_eq_false q]
    cases h : PyData.eqv (tD t) (tD u) with
    | false => rfl
    | true => exact (q (eqv_same t u h)).elim
end Kh

set_option maxRecDepth 100000
set_option maxHeartbeats 4000000
/-! set(list of whole numbers), sorted(set(..)), len(set(..)) -/
namespace Kh
open PySem PySem.Spec PyProof.Rows L2
section
variable {P : Program} {w : World} {B : Around} {X0 : Value → Shared → Prop} {z : Shared}
/-- set(l), l a list of whole numbers -/
theorem set_of_list {l : Addr} {js : Array Value} (ks : List Int) {R0 : Value → Shared → Prop} (nh : B.handled = none) (isl : z.heap.IsList l js) (insA : IntsAre js.toList ks) (few : ks.length + 1 < scanBound)
    (fin : ∀ (g1 : Heap) (tk c : Nat), SetR w g1 z.heap.objs.size (fun j => decide (j ∈ ks)) c → c ≤ ks.length → (∀ b o, z.heap.get? b = some o → g1.get? b = some o) → R0 (.ref z.heap.objs.size) { z with heap := g1, toks := tk }) :
    wpAny (model P w) B (call (.type "set") [.ref l]) R0 X0 z := by
  have jl : js.size = ks.length := by
    have q := IntsAre.length insA
    rwa [Array.length_toList] at q
  obtain ⟨_, _, hmro⟩ := F.called_set.mro
  have m1 := F.called_set.made
  have m2 := F.called_set.sub
  refine wpAny_call (codeAny_of_tree ?_)
  show wpAny _ _ (callAny (Value.type "set") _) _ _ _
  refine wpAny_pure ⟨(Code.quiet_builtin _ (by decide +kernel)), (codeAny_builtin F.entry_type_call ?_)⟩
  rw [(Around.under_plain (weight_type_call_type "set" [.ref l] []) rfl)]
  have m3 := F.called_set.notType
  have m4 := F.called_set.canCreate
  have m5 := F.typeCall_set_1 (.ref l)
  repeat any_goals first | assumption | wp_step
  refine codeAny_mono (code_set_led1 (.ref l) (E := X0) (Q₁ := fun ob z1 => ob = .ref z.heap.objs.size ∧ z1 = { z with heap := z.heap.push { cls := .type "set", dict := none, data := .set #[] 0 (.fresh 0 0 (!w.params.followText "set-order")) } }) ⟨rfl, rfl⟩) fun r z1 hr => ?_
  cases r with
  | error e => exact hr
  | ok fl =>
    cases fl with
    | ret ob =>
      obtain ⟨rfl, rfl⟩ := hr
      have n1 : (z.heap.push { cls := .type "set", dict := none, data := .set #[] 0 (.fresh 0 0 (!w.params.followText "set-order")) }).get? z.heap.objs.size = some { cls := .type "set", dict := none, data := .set #[] 0 (.fresh 0 0 (!w.params.followText "set-order")) } := Heap.get?_push_size _ rfl
      have n2 : Shared.TypeIs { z with heap := z.heap.push { cls := .type "set", dict := none, data := .set #[] 0 (.fresh 0 0 (!w.params.followText "set-order")) } } (.ref z.heap.objs.size) "set" := ⟨_, n1, rfl⟩
      have n3 := F.called_set.init.lookup
      have n4 := F.called_set.init.bind (.ref z.heap.objs.size)
      repeat any_goals first | assumption | wp_step
      refine codeAny_mono (codeAny_call_builtin (R := wants (fun r z2 => r = .none ∧ ∃ g1 tk c, z2 = { z with heap := g1, toks := tk } ∧ SetR w g1 z.heap.objs.size (fun j => decide (j ∈ ks)) c ∧ c ≤ ks.length ∧ (∀ b o, z.heap.get? b = some o → g1.get? b = some o)) X0)
          F.called_set.init.plain F.entry_set_init (check_set_init_1 n2 ?_)) fun r₂ z2 hr₂ => ?_
      · obtain ⟨ol, hol, hcl, nl, hdl⟩ := isl
        obtain ⟨oc, od, odt, os⟩ := ol
        simp only at hcl hdl
        subst hcl; subst hdl
        have hol' : (z.heap.push { cls := .type "set", dict := none, data := .set #[] 0 (.fresh 0 0 (!w.params.followText "set-order")) }).get? l = some { cls := .type "list", dict := od, data := .seq js nl, slots := os } := Heap.get?_push_of_some _ hol
        have p1 := F.sub_list_set
        have p2 := F.sub_list_frozenset
        have p3 : (Value.type "list" == Value.type "dict") = false := by decide
        have p4 : (z.heap.push { cls := .type "set", dict := none, data := .set #[] 0 (.fresh 0 0 (!w.params.followText "set-order")) }).IsList l js := ⟨_, hol', rfl, nl, rfl⟩
        unfold Builtin.«set.__init__»
        unfold noKeywords
        unfold Builtin.Frozenset.updateFrom
        generalize hPI : pyIter = PI
        wp_walk
        subst hPI
        refine wpAny_pyIter_list p4 ?_
        refine wpAny_bind (wpAny_runValue ?_)
        have ls : l < z.heap.objs.size := Heap.lt_size hol
        have p5 : B.in1.in1.in1.handled = none := by simp [nh]
        have p6 : l ≠ (z.heap.push { cls := .type "set", dict := none, data := .set #[] 0 (.fresh 0 0 (!w.params.followText "set-order")) }).objs.size := by
          rw [Heap.size_push]
          exact Nat.ne_of_lt (Nat.lt_succ_of_lt ls)
        have p7 : z.heap.objs.size ∉ [(z.heap.push { cls := .type "set", dict := none, data := .set #[] 0 (.fresh 0 0 (!w.params.followText "set-order")) }).objs.size, l] := by
          rw [Heap.size_push]
          simp only [List.mem_cons, List.not_mem_nil, or_false, not_or]
          exact ⟨Nat.ne_of_lt (Nat.lt_succ_self _), Nat.ne_of_gt ls⟩
        have p8 : ∀ (i : Nat) (v : Value), js[i]? = some v → ∃ k t, ks[i]? = some k ∧ v = .int k t := fun i v hv => by
          have hi : i < ks.length := by rw [← jl]; exact (Array.getElem?_eq_some_iff.mp hv).1
          obtain ⟨t, e⟩ := PyProof.Rows.IntsAre.int_at insA i v (by rw [Array.getElem?_toList]; exact hv)
          refine ⟨ks[i], t, List.getElem?_eq_getElem hi, ?_⟩
          rw [e, List.getD_eq_getElem?_getD, List.getElem?_eq_getElem hi] <;> rfl
        refine set_update_ints ((Walks.list p5 _ l p6 js).toS) z.heap.objs.size p7 ks jl few p8 (js.size - 0) 0 _ (by omega) (Nat.zero_le _) ⟨⟨_, Heap.get?_push_size _ rfl, rfl, rfl⟩, (p4.push _)⟩ ?empty ?whole
        case empty =>
          have hget : ((z.heap.push { cls := .type "set", dict := none, data := .set #[] 0 (.fresh 0 0 (!w.params.followText "set-order")) }).push { cls := .type "list_iterator", data := .fields #[.ref l, .int 0 0] }).get? z.heap.objs.size = some { cls := .type "set", dict := none, data := .set #[] 0 (.fresh 0 0 (!w.params.followText "set-order")) } := Heap.get?_push_of_some _ n1
          exact ⟨0, Nat.le_refl 0, setR_new_at hget⟩
        case whole =>
          intro z3 c3 hm hc3 hS3
          obtain ⟨g1, g2, d3, tk3, os3⟩ := z3
          have eg : g2 = z.gens := hm.gens
          have ed : d3 = z.drawn := hm.drawn
          have eo : os3 = z.os := hm.os
          subst eg; subst ed; subst eo
          show wpAny _ _ _ _ _ _
          refine wpAny_pure ?_
          show wpAny _ _ (ret (Value.none)) _ _ _
          rw [jl] at hc3
          refine wpAny_pure ⟨rfl, g1, tk3, c3, rfl, hS3, hc3, fun b o e => ?_⟩
          have b0 : b < z.heap.objs.size := Heap.lt_size e
          have b2 : b ≠ (z.heap.push { cls := .type "set", dict := none, data := .set #[] 0 (.fresh 0 0 (!w.params.followText "set-order")) }).objs.size := by rw [Heap.size_push]; exact Nat.ne_of_lt (Nat.lt_succ_of_lt b0)
          exact hm.heap b o (by simp only [List.mem_cons, List.mem_singleton, List.not_mem_nil, or_false, not_or]; exact ⟨Nat.ne_of_lt b0, b2⟩) (Heap.get?_push_of_some _ (Heap.get?_push_of_some _ e))
      · cases r₂ with
        | error e => exact hr₂
        | ok fl₂ =>
          cases fl₂ with
          | ret r =>
            obtain ⟨rfl, g1, tk, c', rfl, hS', hc', hk'⟩ := hr₂
            repeat any_goals first | assumption | wp_step
            exact fin _ _ _ hS' hc' hk'
          | _ => exact hr₂.elim
    | _ => exact hr.elim
end
section
variable {X : Cx}
/-- set(xs), xs a list of ints -/
def rSetOf (K : PySem.W.Frag) (w : World) : List V → Hp → VK → Prop := fun vs H Q => ∃ (l : Addr) (ks : List Int), vs = [V.ref l] ∧ SqL K H l (ks.map V.int) ∧ ks.length ≤ 1000 ∧
  ∀ (p : Addr) (n : Nat), H p = none → n ≤ ks.length → Q (.ref p) (upd H p (SetO w p (fun j => decide (j ∈ ks)) n))
theorem cr_setOf (hc : X.calm = true) : CallR X (.type "set") (rSetOf X.K X.w) := by
  intro pins s σ H xs us Q I r h
  obtain ⟨l, ks, rfl, hs, hz, q⟩ := h
  obtain ⟨u, rfl, ru⟩ := r.one
  cases ru
  obtain ⟨its, rv, ⟨⟨cls, dd, data, sl⟩, n, ho, hcl, hdn, hd⟩, hlen⟩ := I.list hs
  refine set_of_list (js := its.toArray) ks (I.ok.hd hc) ⟨_, ho, hcl, n, hd⟩ (by simpa using ints_of_vals rv) (Nat.lt_of_le_of_lt (show ks.length + 1 ≤ 1001 by omega) (by decide)) fun g1 tk c hS hc kp => ?_
  exact ⟨.ref _, upd H s.heap.objs.size (SetO X.w s.heap.objs.size (fun j => decide (j ∈ ks)) c), I.laid (t' := tk) kp (Nat.le_refl _) (setO_new hS), rfl, q _ c (I.hok.fresh (Nat.le_refl _)) hc⟩
end
end Kh

set_option maxRecDepth 100000
set_option maxHeartbeats 1000000
/-! for over data -/
namespace Kh
open PySem PySem.Spec PyProof.Rows L2
theorem s_for {K : PySem.W.Frag} {S : Addr → Prop} {H : Hp} {σ : L2.St} {t : TE} {g : TG} {tb : TS} {D : Ends} {b : Bool} {ds : List PyData} (kn : Kn S H)
    (hev : ∀ Q : VK, (∀ u H1, Same H H1 → Dp K (off S H1) u (sq b ds) → Q u H1) → t σ H Q)
    (step : ∀ xs H1, Same H H1 → Kn S H1 → DpAll K (off S H1) xs ds → xs.length = ds.length → ∃ Pv : Nat → L2.St → Hp → Prop, Pv 0 σ H1 ∧ (∀ i σ' H', i ≤ ds.length → Pv i σ' H' → Same (off S H1) H') ∧
      (∀ i x d σ' H', ds[i]? = some d → Dp K (off S H1) x d → Pv i σ' H' → g x σ' H' fun σ2 H2 => tb { D with nx := Pv (i + 1), ct := Pv (i + 1), bk := D.nx } σ2 H2) ∧ (∀ σ' H', Pv ds.length σ' H' → D.nx σ' H')) :
    tFor (fun σ H R => iList K t σ H R ∨ iTup K t σ H R) g tb D σ H := by
  refine it_any hev fun J xs H1 s1 ha w => ?_
  have ln := dpa_len ha
  obtain ⟨Pv, h0, hG, hs, hd⟩ := step xs H1 s1 (kn.same s1) ha ln
  refine for_it w Pv h0 (fun i σ' H' hi p => hG i σ' H' (by omega) p) (fun i x σ' H2 H3 hi p y => ?_) (fun σ' H' p => hd σ' H' (by rw [← ln]; exact p))
  obtain ⟨rfl, xi⟩ := y
  obtain ⟨d, di, dx⟩ := dpa_at ha xi
  exact hs i x d σ' H3 di dx p
section
variable {σ : L2.St} {H : Hp} {Q : VK} {D : Ends} {te : TE} {i : Nat} {v : V}
theorem g_name {k : L2.St → Hp → Prop} (h : k (σ.set i (some v)) H) : gName i v σ H k := h
end
/-- an int list by its strictly rising order -/
theorem rise_eq : ∀ {xs ys : List Int}, xs.Pairwise (· < ·) → ys.Pairwise (· < ·) → (∀ k, k ∈ xs ↔ k ∈ ys) → xs = ys
  | [], [], _, _, _ => rfl
  | [], y :: ys, _, _, h => by have := (h y).mpr List.mem_cons_self; cases this
  | x :: xs, [], _, _, h => by have := (h x).mp List.mem_cons_self; cases this
  | x :: xs, y :: ys, hx, hy, h => by
    have hx' := List.pairwise_cons.mp hx
    have hy' := List.pairwise_cons.mp hy
    have e : x = y := by
      have h1 := (h x).mp List.mem_cons_self
      have h2 := (h y).mpr List.mem_cons_self
      rcases List.mem_cons.mp h1 with h1 | h1
      · exact h1
      · rcases List.mem_cons.mp h2 with h2 | h2
        · exact h2.symm
        · have a1 := hy'.1 x h1
          have a2 := hx'.1 y h2
          omega
    subst e
    have t : xs = ys := rise_eq hx'.2 hy'.2 fun k => by
      constructor
      · intro hk
        rcases List.mem_cons.mp ((h k).mp (List.mem_cons_of_mem _ hk)) with e | e
        · subst e; exact absurd (hx'.1 k hk) (by omega)
        · exact e
      · intro hk
        rcases List.mem_cons.mp ((h k).mpr (List.mem_cons_of_mem _ hk)) with e | e
        · subst e; exact absurd (hy'.1 k hk) (by omega)
        · exact e
    rw [t]
/-- len(s), s a set of ints -/
def rLenSet (w : World) : List V → Hp → VK → Prop := fun vs H Q => ∃ (a : Addr) (S : Int → Bool) (n : Nat), vs = [V.ref a] ∧ H a = some (SetO w a S n) ∧ n ≤ 1000 ∧
  ∀ ns : List Int, ns.Nodup → (∀ k, k ∈ ns ↔ S k = true) → ns.length = n → Q (.int (n : Nat)) H
theorem cr_lenSet {X : Cx} : CallR X (.builtin "len") (rLenSet X.w) := by
  intro pins s σ H xs us Q I r h
  obtain ⟨a, S, n, rfl, ha, hz, q⟩ := h
  obtain ⟨u, rfl, ru⟩ := r.one
  cases ru
  obtain ⟨o, es, ep, t, ho, hex, hd, hg, hnd, hk, hb, hf, hn, _⟩ := setO_get I ha
  exact call_len_set ho hex hd hf (by omega) ⟨.int n, H, I.tok _, ⟨_, by rw [hn]⟩, q _ hnd (fun k => (hk k).symm) (by rw [List.length_map, Array.length_toList]; exact hn)⟩
end Kh

set_option maxRecDepth 100000
set_option maxHeartbeats 1000000
/-! sorted of a list of data -/
namespace Kh
open PySem PySem.Spec PyProof.Rows L2
def rSortD (K : PySem.W.Frag) : List V → Hp → VK → Prop := fun vs H Q => ∃ (a : Addr) (xs : List V) (ds : List PyData), vs = [V.ref a] ∧ SqL K H a xs ∧ DpAll K H xs ds ∧ PySem.W.AllAlike ds ∧ PySem.W.Sortable ds ∧ (∀ d ∈ ds, d.depth ≤ 60) ∧
  ∀ (p : Addr) (bs : List (V × PyData)), H p = none → bs.Perm (xs.zip ds) → Q (.ref p) (upd H p (.lst (bs.map Prod.fst)))
theorem zip_mem_dp {K : PySem.W.Frag} {H : Hp} : ∀ {xs : List V} {ds : List PyData}, DpAll K H xs ds → ∀ b ∈ xs.zip ds, Dp K H b.1 b.2
  | _, _, .nil, b, hb => by simp at hb
  | _, _, .cons h t, b, hb => by
    rw [List.zip_cons_cons] at hb
    rcases List.mem_cons.mp hb with rfl | hb
    · exact h
    · exact zip_mem_dp t b hb
theorem zip_snd {K : PySem.W.Frag} {H : Hp} {xs : List V} {ds : List PyData} (h : DpAll K H xs ds) : (xs.zip ds).map Prod.snd = ds := List.map_snd_zip (by rw [dpa_len h]; exact Nat.le_refl _)
theorem zip_fst {K : PySem.W.Frag} {H : Hp} {xs : List V} {ds : List PyData} (h : DpAll K H xs ds) : (xs.zip ds).map Prod.fst = xs := List.map_fst_zip (by rw [dpa_len h]; exact Nat.le_refl _)
theorem each_rel : ∀ {xs : List V} {us : List Value} {ds : List PyData}, Vals xs us → xs.length = ds.length → PySem.W.EachIs (fun (v : Value) (b : V × PyData) => RelV b.1 v) us (xs.zip ds)
  | [], _, [], .nil, _ => .nil
  | x :: xs, _, d :: ds, .cons r t, h => .cons r (each_rel t (by simpa using h))
  | [], _, _ :: _, _, h => by simp at h
  | _ :: _, _, [], _, h => by simp at h
theorem each_vals : ∀ {us : List Value} {bs : List (V × PyData)}, PySem.W.EachIs (fun (v : Value) (b : V × PyData) => RelV b.1 v) us bs → Vals (bs.map Prod.fst) us
  | _, _, .nil => .nil
  | _, _, .cons r t => .cons r (each_vals t)
theorem each_and {α β : Type} {R S : α → β → Prop} : ∀ {us : List α} {bs : List β}, PySem.W.EachIs R us bs → (∀ u b, b ∈ bs → R u b → S u b) → PySem.W.EachIs S us bs
  | _, _, .nil, _ => .nil
  | _, _, .cons r t, h => .cons (h _ _ List.mem_cons_self r) (each_and t fun u b hb => h u b (List.mem_cons_of_mem _ hb))
theorem cr_sortD {X : Cx} (hu : X.A.units + 64 < cLine) : CallR X (.builtin "sorted") (rSortD X.K) := by
  intro pins s σ H vs us Q I r h
  obtain ⟨a, xs, ds, rfl, hs, hd, hal, hk, hdp, q⟩ := h
  obtain ⟨u, rfl, ru⟩ := r.one
  cases ru
  obtain ⟨its, rv, hl, hz⟩ := I.list hs
  have e := each_rel rv (dpa_len hd)
  have er : PySem.W.EachIs (fun (v : Value) (b : V × PyData) => ∃ as, Reads s.heap v b.2 as) its (xs.zip ds) := each_and e fun u b hb ru => Dp.reads I b.2 b.1 u (zip_mem_dp hd b hb) ru
  have hlen : (xs.zip ds).length = xs.length := by rw [List.length_zip, dpa_len hd]; omega
  refine PySem.W.sorted_data (enc := Prod.snd) hl.isList e er (by rw [zip_snd hd]; exact hal) (by rw [zip_snd hd]; exact hk) (by rw [hlen]; exact hz) (fun b hb => ?_) fun out ho eo => ?_
  · have hm : b.2 ∈ ds := by
      have h1 : b.2 ∈ (xs.zip ds).map Prod.snd := List.mem_map_of_mem hb
      rwa [zip_snd hd] at h1
    have := hdp _ hm
    omega
  · have hp := List.mergeSort_perm (xs.zip ds) (PySem.W.dataLe false Prod.snd)
    have hv := each_vals eo
    obtain ⟨n, hn⟩ := sortedAll_at s.heap its (List.toArray out)
    refine ⟨.ref (s.heap.objs.size + 1), upd H (s.heap.objs.size + 1) (.lst (((xs.zip ds).mergeSort (PySem.W.dataLe false Prod.snd)).map Prod.fst)), I.laid (t' := s.toks) (fun b o z => sortedAll_old z) (Nat.le_succ _) ⟨?_, out, n, hv, hn⟩, rfl, q _ _ (I.hok.fresh (Nat.le_succ _)) hp⟩
    rw [List.length_map, hp.length_eq, hlen]; exact hz
/-- xs + ys, lists of any kind -/
def rCatS (K : PySem.W.Frag) : R2 := fun x y H Q => ∃ l b xs zs, x = .ref l ∧ y = .ref b ∧ SqL K H l xs ∧ SqL K H b zs ∧ xs.length + zs.length ≤ sizeLine ∧ ∀ p, H p = none → Q (.ref p) (upd H p (.lst (xs ++ zs)))
theorem op_catS {X : Cx} : OpR X (binaryOp .Add) (rCatS X.K) := by
  intro pins s σ H x y v u Q I rx ry h
  obtain ⟨l, b, xs, zs, rfl, rfl, hH, hB, hz, q⟩ := h
  cases rx
  cases ry
  obtain ⟨its, r, ⟨⟨c1, d1, t1, o1⟩, n1, g1, a1, a2, a3⟩, _⟩ := I.list hH
  obtain ⟨its2, r2, ⟨⟨c2, d2, t2, o2⟩, n2, g2, b1, b2, b3⟩, _⟩ := I.list hB
  simp only at a1 a2 a3 b1 b2 b3
  subst a1; subst a2; subst a3; subst b1; subst b2; subst b3
  refine concat_meets ⟨_, g1, rfl⟩ ⟨_, g2, rfl⟩ noFill_list_add seq_list_add PySem.F.slot_list_add PySem.F.entry_list_add (PySem.F.args_list_add_2 _ _) (list_addW l b its.toArray its2.toArray n1 n2 none none o1 o2 (by rw [List.size_toArray, List.size_toArray, ← r.length, ← r2.length]; exact hz)) ⟨g1, g2, ?_⟩
  have ea : its.toArray ++ its2.toArray = (its ++ its2).toArray := by simp
  rw [ea]
  exact ⟨.ref _, _, I.lnew (t' := s.toks) (r.append r2) (by rw [List.length_append]; exact hz), rfl, q _ I.fresh⟩
section
variable {X : Cx} {K : PySem.W.Frag}
theorem k_catS (h : X.K = K := by rfl) : OpR X (binaryOp .Add) (rCatS K) := by subst h; exact op_catS
theorem k_sortD (hu : X.A.units + 64 < cLine) (h : X.K = K := by rfl) : CallR X (.builtin "sorted") (rSortD K) := by subst h; exact cr_sortD hu
theorem k_setOf (hc : X.calm = true) (h : X.K = K := by rfl) : CallR X (.type "set") (rSetOf K X.w) := by subst h; exact cr_setOf hc
end
theorem cat_d {K : PySem.W.Frag} {S : Addr → Prop} {H : Hp} {x y : V} {ds es : List PyData} {Q : VK} (kn : Kn S H) (hx : Dp K (off S H) x (.list ds)) (hy : Dp K (off S H) y (.list es)) (hz : ds.length + es.length ≤ 100000)
    (q : ∀ u H', Same H H' → Dp K (off S H') u (.list (ds ++ es)) → Q u H') : rCatS K x y H Q := by
  obtain ⟨l, xs, rfl, h1, d1⟩ := list_at hx
  obtain ⟨b, zs, rfl, h2, d2⟩ := list_at hy
  refine ⟨l, b, xs, zs, rfl, rfl, off_sub.seq h1, off_sub.seq h2, ?_, fun p hp => q _ _ (same_new hp) (dp_newL kn hp (dpa_app d1 d2))⟩
  rw [dpa_len d1, dpa_len d2]
  exact Nat.le_trans hz (by decide)
theorem sort_d {K : PySem.W.Frag} {S : Addr → Prop} {H : Hp} {x : V} {ds : List PyData} {Q : VK} (kn : Kn S H) (hx : Dp K (off S H) x (.list ds)) (hal : PySem.W.AllAlike ds) (hk : PySem.W.Sortable ds) (hdp : ∀ d ∈ ds, d.depth ≤ 60)
    (q : ∀ u H' es, Same H H' → es.Perm ds → Dp K (off S H') u (.list es) → Q u H') : rSortD K [x] H Q := by
  obtain ⟨l, xs, rfl, h1, d1⟩ := list_at hx
  refine ⟨l, xs, ds, rfl, off_sub.seq h1, dpa_same off_sub _ _ d1, hal, hk, hdp, fun p bs hp pm => ?_⟩
  have pe := pm.map Prod.snd
  rw [zip_snd d1] at pe
  refine q _ _ (bs.map Prod.snd) (same_new hp) pe (dp_newL kn hp ?_)
  have go : ∀ cs : List (V × PyData), (∀ b ∈ cs, b ∈ xs.zip ds) → DpAll K (off S H) (cs.map Prod.fst) (cs.map Prod.snd) := by
    intro cs
    induction cs with
    | nil => intro _; exact .nil
    | cons c cs ih => intro h; exact .cons (zip_mem_dp d1 c (h c List.mem_cons_self)) (ih fun b hb => h b (List.mem_cons_of_mem _ hb))
  exact go bs fun b hb => pm.mem_iff.mp hb
end Kh

set_option maxRecDepth 100000
set_option maxHeartbeats 1000000
/-! promises whose results share nothing with what is told ahead -/
namespace Kh
open PySem PySem.Spec PyProof.Rows L2
/-- data in new lists and tuples, all of them tracked -/
inductive Np (H : Hp) : V → PyData → Prop where
  | int (i : Int) : Np H (.int i) (.int i)
  | str (x : Str) : Np H (.str x) (.str x)
  | lst {a : Addr} {xs : List V} {ds : List PyData} (h : H a = some (.lst xs)) (l : xs.length = ds.length) (t : ∀ (i : Nat) x d, xs[i]? = some x → ds[i]? = some d → Np H x d) : Np H (.ref a) (.list ds)
  | tup {a : Addr} {xs : List V} {ds : List PyData} (h : H a = some (.tup xs)) (l : xs.length = ds.length) (t : ∀ (i : Nat) x d, xs[i]? = some x → ds[i]? = some d → Np H x d) : Np H (.ref a) (.tuple ds)
theorem Np.same {H H' : Hp} (e : Same H H') {v : V} {d : PyData} (h : Np H v d) : Np H' v d := by
  induction h with
  | int i => exact .int i
  | str x => exact .str x
  | lst h l t ih => exact .lst (e _ _ h) l ih
  | tup h l t ih => exact .tup (e _ _ h) l ih
theorem Np.dp {K : PySem.W.Frag} {H : Hp} {v : V} {d : PyData} (h : Np H v d) : Dp K H v d := by
  induction h with
  | int i => exact .int i
  | str x => exact .str x
  | lst h l t ih => exact .lst (sqL h) (dpa_of l ih)
  | tup h l t ih => exact .tup (sqT h) (dpa_of l ih)
/-- what the results are told by -/
structure Rp (R : Hp → V → PyData → Prop) : Prop where
  same : ∀ {H H' : Hp} {v : V} {d : PyData}, Same H H' → R H v d → R H' v d
  lst : ∀ {H : Hp} {a : Addr} {xs : List V} {ds : List PyData}, H a = some (.lst xs) → xs.length = ds.length → (∀ (i : Nat) x d, xs[i]? = some x → ds[i]? = some d → R H x d) → R H (.ref a) (.list ds)
theorem rp_np : Rp Np := ⟨fun e h => h.same e, fun h l t => .lst h l t⟩
theorem rp_dp (K : PySem.W.Frag) : Rp (Dp K) := ⟨fun e h => dp_same e _ _ h, fun h l t => .lst (sqL h) (dpa_of l t)⟩
/-- what is read lies out of S, what is made out of S2 -/
def spN {α : Type} (R : Hp → V → PyData → Prop) (K : PySem.W.Frag) (enc : α → List PyData) (pre : α → Prop) (f : α → PyData) : Sp := fun vs H Q _ => ∃ (S S2 : Addr → Prop) (x : α), (∀ a, S a → S2 a) ∧ Kn S2 H ∧ DpAll K (off S H) vs (enc x) ∧ pre x ∧
  ∀ v H', Same H H' → R (off S2 H') v (f x) → Q v H'
theorem spN_len {α : Type} {R : Hp → V → PyData → Prop} {K : PySem.W.Frag} {enc : α → List PyData} {pre : α → Prop} {f : α → PyData} {vs : List V} {H : Hp} {Q : VK} {E : XK} {n : Nat} (hn : ∀ x, (enc x).length = n) (h : spN R K enc pre f vs H Q E) : vs.length = n := by
  obtain ⟨S, S2, x, _, _, hd, _⟩ := h
  rw [← hn x]; exact dpa_len hd
theorem spN_P {α : Type} {R : Hp → V → PyData → Prop} {K : PySem.W.Frag} {enc : α → List PyData} {pre : α → Prop} {f : α → PyData} {vs : List V} {H : Hp} {Q : VK} {E : XK} (hR : ∀ {H v d}, R H v d → Dp K H v d) (h : spP K enc pre f vs H Q E) : spN R K enc pre f vs H Q E := by
  obtain ⟨S, x, kn, hd, hp, q⟩ := h
  exact ⟨S, S, x, fun _ z => z, kn, hd, hp, fun v H' s h => q v H' s (hR h)⟩
theorem lc_datN {R : Hp → V → PyData → Prop} (rp : Rp R) {K : PySem.W.Frag} {S S2 : Addr → Prop} {H1 : Hp} {σ : L2.St} {te : TE} {sl : Nat} {vs : List Nat} {Qd : VK} {J : It} {xs : List V} {ds : List PyData} (f : Nat → PyData) (h12 : ∀ a, S a → S2 a)
    (w : Walk J xs.length (fun H' => Same (off S H1) H') (YAt xs)) (ha : DpAll K (off S H1) xs ds) (kn : Kn S2 H1) (hn : ds.length ≤ 100000) (hw : ∀ x, wipe ((wipe σ vs).set sl (some x)) vs = wipe σ vs)
    (body : ∀ j x d H Sa Sb, ds[j]? = some d → Same H1 H → (∀ a, Sa a → Sb a) → Kn Sb H → Dp K (off Sa H) x d → (∀ a, S2 a → Sb a) → ∀ Q : VK, (∀ y H', Same H H' → R (off Sb H') y (f j) → Q y H') → te ((wipe σ vs).set sl (some x)) H Q)
    (done : ∀ D H ys, H1 D = none → Same H1 H → H D = some (.lst ys) → R (off S2 H) (.ref D) (.list ((List.range ds.length).map f)) → Qd (.ref D) H) :
    ∀ D, H1 D = none → ∃ W : Nat → Nat → Hp → Prop, (∃ m, W 0 m (upd H1 D (.lst []))) ∧ ∀ i m H, W i m H →
      (J.stop i H ∧ Qd (.ref D) H) ∨ (J.go i H ∧ ∃ Nx : Hp → Prop, (∀ H', Nx H' → ∃ m', m' < m ∧ W (i + 1) m' H') ∧ ∀ x H', J.yld i H x H' → gName sl x (wipe σ vs) H' fun σ2 H2 => wipe σ2 vs = wipe σ vs ∧ tYes σ2 H2 fun b H3 =>
        if b = true then te σ2 H3 fun y H4 => ∃ acc, H4 D = some (.lst acc) ∧ acc.length < sizeLine ∧ Nx (upd H4 D (.lst (acc ++ [y]))) else Nx H3) := by
  intro D hD
  have ln := dpa_len ha
  refine lc_map (Qd := Qd (.ref D)) w (fun j x => xs[j]? = some x) (fun i H x H' _ y => y) (fun j y H => R (off (plus S2 D) H) y (f j)) (fun H s => off_sub.trans s) hD (by omega) hw (fun j y H H' e h => rp.same (off_but e) h) (fun j x H hj xj s hd Q q => ?_) (fun ys H hl py s hd => ?_)
  · obtain ⟨d, dj, dx⟩ := dpa_at ha xj
    exact body j x d H (plus S D) (plus S2 D) dj s (fun a z => z.imp (h12 a) id) ((kn.same s).plus hd) (dp_same (off_plus hD s) _ _ dx) (fun _ h => .inl h) Q q
  · refine done D H ys hD s hd (rp.lst (by rw [off_out (kn.new hD)]; exact hd) (by simp [hl, ln]) fun i v d h1 h2 => rp.same (off_fin (D := D)) ?_)
    have hi : i < ds.length := by
      have := (List.getElem?_eq_some_iff.mp h1).1
      omega
    rw [List.getElem?_map, List.getElem?_range hi] at h2
    cases h2
    exact py i v h1
theorem lc_seqN {R : Hp → V → PyData → Prop} (rp : Rp R) {K : PySem.W.Frag} {S S2 : Addr → Prop} {H : Hp} {σ : L2.St} {t te : TE} {sl : Nat} {vs : List Nat} {Q : VK} {b : Bool} {ds : List PyData} (f : Nat → PyData) (h12 : ∀ a, S a → S2 a) (kn : Kn S2 H)
    (hev : ∀ Q : VK, (∀ u H1, Same H H1 → Dp K (off S H1) u (sq b ds) → Q u H1) → t σ H Q) (hn : ds.length ≤ 100000) (hw : ∀ x, wipe ((wipe σ vs).set sl (some x)) vs = wipe σ vs)
    (body : ∀ j x d H1 Sa Sb, ds[j]? = some d → Same H H1 → (∀ a, Sa a → Sb a) → Kn Sb H1 → Dp K (off Sa H1) x d → (∀ a, S2 a → Sb a) → ∀ Q : VK, (∀ y H', Same H1 H' → R (off Sb H') y (f j) → Q y H') → te ((wipe σ vs).set sl (some x)) H1 Q)
    (done : ∀ D H1 ys, H D = none → Same H H1 → H1 D = some (.lst ys) → R (off S2 H1) (.ref D) (.list ((List.range ds.length).map f)) → Q (.ref D) H1) :
    tLc (fun σ H R => iList K t σ H R ∨ iTup K t σ H R) (gName sl) tYes te vs σ H Q :=
  it_any hev fun J xs H1 s ha w => lc_datN rp f h12 w ha (kn.same s) hn hw (fun j x d H2 Sa Sb dj s2 hab kn2 dx hS Q q => body j x d H2 Sa Sb dj (s.trans s2) hab kn2 dx hS Q q)
    fun D H2 ys hD s2 hd h => done D H2 ys (s.free hD) (s.trans s2) hd h
/-- all that is known -/
def old (H : Hp) : Addr → Prop := fun a => H a ≠ none
theorem kn_old {H : Hp} : Kn (old H) H := fun _ h => h
theorem old_of {S : Addr → Prop} {H : Hp} (k : Kn S H) : ∀ a, S a → old H a := k
/-- [y for x, y in pairs] -/
theorem lc_pair {K : PySem.W.Frag} {S : Addr → Prop} {H : Hp} {σ : L2.St} {t : TE} {s1 s2 : Nat} {vs : List Nat} {Q : VK} (Pd : List (PyData × PyData) → Prop) (kn : Kn S H)
    (hev : ∀ Q : VK, (∀ u H1 ds, Same H H1 → Pd ds → Dp K (off S H1) u (.list (ds.map fun d => .tuple [d.1, d.2])) → Q u H1) → t σ H Q) (hn : ∀ ds, Pd ds → ds.length ≤ 100000)
    (hw : ∀ x y, wipe (((wipe σ vs).set s1 (some x)).set s2 (some y)) vs = wipe σ vs) (hg : ∀ x y, (((wipe σ vs).set s1 (some x)).set s2 (some y))[s2]? = some (some y))
    (done : ∀ D H1 ys ds, Pd ds → H D = none → Same H H1 → H1 D = some (.lst ys) → Dp K (off S H1) (.ref D) (.list (ds.map Prod.snd)) → Q (.ref D) H1) :
    tLc (fun σ H R => iList K t σ H R ∨ iTup K t σ H R) (gTup K 2 (gCons (gName s1) (gCons (gName s2) gNil))) tYes (tVar s2) vs σ H Q := by
  refine .inl (hev _ fun u H1 ds s pd du => ?_)
  obtain ⟨ra, xs, rfl, hsq, ha⟩ := list_at du
  have hn := hn ds pd
  refine ⟨ra, rfl, ⟨xs, off_sub.seq hsq⟩, fun D hD => ?_⟩
  have w : Walk (Itl K ra) xs.length (fun H' => Same (off S H1) H') (YAt xs) := walk_list.mono (fun H' z => z.seq hsq) fun _ _ _ _ _ _ y => y
  have ln := dpa_len ha
  rw [List.length_map] at ln
  refine wlk w (fun x H' Nx => gTup K 2 (gCons (gName s1) (gCons (gName s2) gNil)) x (wipe σ vs) H' fun σ2 H2 => wipe σ2 vs = wipe σ vs ∧ tYes σ2 H2 fun b H3 => if b = true then tVar s2 σ2 H3 fun y H4 => ∃ acc, H4 D = some (.lst acc) ∧ acc.length < sizeLine ∧ Nx (upd H4 D (.lst (acc ++ [y]))) else Nx H3)
    (fun i H' => ∃ ys, DpAll K (off (plus S D) H') ys ((ds.take i).map Prod.snd) ∧ Same H1 H' ∧ H' D = some (.lst ys)) ⟨[], .nil, same_new hD, upd_same⟩ (fun i H' _ ⟨_, _, z, _⟩ => off_sub.trans z) ?_ ?_
  · rintro i x H2 H3 hi ⟨ys, py, z, hd⟩ ⟨rfl, xi⟩
    obtain ⟨d, dj, dx⟩ := dpa_at ha xi
    rw [List.getElem?_map] at dj
    cases di : ds[i]? with
    | none => rw [di] at dj; cases dj
    | some e =>
      rw [di] at dj
      obtain rfl := (Option.some.inj dj).symm
      obtain ⟨p, us, rfl, hs, hu⟩ := tup_at (dp_same (off_plus hD z) _ _ dx)
      obtain - | ⟨h1, - | ⟨h2, ⟨⟩⟩⟩ := hu
      rename_i u1 u2
      have hl : ys.length ≤ 100000 := by
        have := dpa_len py
        rw [List.length_map, List.length_take] at this
        omega
      refine ⟨p, _, rfl, same_t off_sub hs, rfl, u1, _, rfl, u2, _, rfl, rfl, hw u1 u2, t_yes ⟨u2, hg u1 u2, ys, hd, Nat.lt_of_le_of_lt hl (by decide), ys ++ [u2], ?_, smut z hD, upd_same⟩⟩
      rw [off_mut (show plus S D D from .inr rfl), List.take_add_one, di, List.map_append]
      exact dpa_app py (.cons h2 .nil)
  · rintro H2 ⟨ys, py, z, hd⟩
    refine done D H2 ys ds pd (s.free hD) (s.trans z) hd (dp_lst ((kn.same s).new hD) hd ?_)
    rw [ln, List.take_length] at py
    exact dpa_same (off_fin (D := D)) _ _ py
end Kh

set_option maxRecDepth 100000
set_option maxHeartbeats 2000000
/-! static methods; repr of data -/
namespace Kh
open PySem PySem.Spec PyProof.Rows L2
/-- C.m is a static method: its record at p, its def at g -/
structure SMet (K : PySem.W.Frag) (C : Addr) (mc : Value) (m : Str) (p g : Addr) : Prop where
  rd : PySem.W.readsIn K C mc = true
  ga : PySem.W.specialIn K (.ref C) "__getattribute__" = some (some (.builtin "type.__getattribute__"))
  at_ : PySem.W.findCls K (.ref C) mc m = some (.get (.builtin "staticmethod.__get__") (.ref p) .none (.ref C))
  rc : ∃ rest, PySem.W.recIn K p "staticmethod" = some (.ref g :: rest)
  kp : PySem.W.keepIn K (.ref g) = true
def tSMeth (C : Addr) (sp : Sp) (E : XK) (ta : TE) (t : TA) : TE := fun σ H Q => ta σ H fun x H1 => x = .ref C ∧ t σ H1 fun vs H2 => sp vs H2 Q E
section
variable {X : Cx} {CX : CXT} {k : Nat} {C p g : Addr} {mc : Value} {sp : Sp} {E : XK} {o e : Expr} {es : List Expr} {f m : Str} {pos apos : Pos} {ta : TE} {t : TA} {pl : Sem Bool}
theorem pe_smeth (he : PE X o ta) (c : SMet X.K C mc m p g) (F : FnR X.prog X.w X.K X.mg X.base CX k g sp) (hr : Room k X.A) (hx : Passes CX X E) (ha : PA X (e :: es) t)
    (hst : starEach (e :: es) X.env = (false, eval e X.env) :: starEach es X.env := by rfl) (hpl : (backTo pos (starEach es X.env)).any (·.1) = false := by rfl)
    (ht : eval (.Call (.Attribute o m apos) (e :: es) [] pos) X.env = (do
      let ov ← eval o X.env; standAt apos.atName; let (f, first) ← holding [ov] (getMethod ov m pl); callWith pos f first (backTo pos (starEach (e :: es) X.env)) (backToKw pos (keywordEach [] X.env))) := by rfl) :
    PE X (.Call (.Attribute o m apos) (e :: es) [] pos) (tSMeth C sp E ta t) := by
  refine ⟨fun pins s σ H Q I h => ?_⟩
  refine PySem.W.methodCall_KW (pl := pl) (thn (he.run pins s σ H _ I h) fun u s1 ⟨x, H1, I1, rx, ex, q⟩ => ?_) ht
  subst ex
  obtain rfl : u = Value.ref C := rx
  obtain ⟨rest, hp⟩ := c.rc
  refine PySem.W.method_cls I1.kIn c.ga (PySem.W.cls_bind I1.kIn c.rd c.at_ (wpAny_call (PySem.W.sm_get (s := { s1 with toks := s1.toks + 1 }) I1.kIn hp (PySem.W.handed_on rfl ?_))))
  have I2 := I1.tok (s1.toks + 1)
  refine PySem.W.callWith_K (first := []) (h₀ := X.base) I2.ok.mod.kin c.kp (thn (ha.run pos pins _ σ H1 _ I2 q) fun us s3 ⟨vs, H2, I3, rv, q2⟩ => ⟨I3.kIn, ?_⟩) hst hpl
  exact wpAny_call (run_fnR F hr hx I3 rv q2)
end
/-- what repr can tell -/
def Tells (K : PySem.W.Frag) (H : Hp) (v : V) (d : PyData) : Prop := Dp K H v d ∧ (∃ n m, Nice n m d ∧ n ≤ 1000000 ∧ m ≤ 60) ∧ ((∃ i, d = .int i) ∨ ∃ ds, items d = some ds)
def rReprD (K : PySem.W.Frag) : List V → Hp → VK → Prop := fun vs H Q => ∃ v d, vs = [v] ∧ Tells K H v d ∧ Q (.str d.shown) H
def tFmtD (K : PySem.W.Frag) (te : TE) : TE := fun σ H Q => te σ H fun x H1 => ∃ d, Tells K H1 x d ∧ Q (.str d.shown) H1
section
variable {X : Cx}
theorem cr_reprD (hg : X.A.guards = some []) (hu : X.A.units + 64 < cLine) : CallR X (.builtin "repr") (rReprD X.K) := by
  intro pins s σ H vs us Q I r h
  obtain ⟨v, d, rfl, ⟨hd, ⟨n, m, hn, hn1, hm1⟩, kind⟩, q⟩ := h
  obtain ⟨u, rfl, ru⟩ := r.one
  rcases kind with ⟨i, rfl⟩ | ⟨ds, hds⟩
  · cases hd
    obtain ⟨t, rfl⟩ := ru
    have hz : i.natAbs.log2 < 1920 := by have := hn.sw; rw [PyData.showable] at this; exact of_decide_eq_true this
    rw [PyData.shown] at q
    exact PySem.P.repr_of_int hz ⟨.str (toString i), H, I.tok _, ⟨_, rfl⟩, q⟩
  · obtain ⟨b, xs, rfl, _, _⟩ := items_at hd hds
    have ru' := ru
    cases ru
    obtain ⟨as, rd⟩ := Dp.reads I d (.ref b) _ hd ru'
    refine repr_of_reads' rd hn.sw (fun z => by rw [hn.nd] at z; cases z) hg (by have := hn.dp; omega) (fun _ _ z => z) (fun h' u tk kp => ?_) (hn.fits hn1)
    exact ⟨.str d.shown, H, I.kept (t' := tk) kp, ⟨u, rfl⟩, q⟩
theorem pe_fmtD {e : Expr} {te : TE} {pos : Pos} (hg : X.A.guards = some []) (hu : X.A.units + 64 < cLine) (he : PE X e te) : PE X (.FormattedValue e 114 none pos) (tFmtD X.K te) := by
  refine ⟨fun pins s σ H Q I h => ?_⟩
  refine wpAny_FormattedValue_repr (thn (he.run pins s σ H _ I h) fun u s1 hv => ?_)
  obtain ⟨x, H1, I1, r1, d, ⟨hd, ⟨n, m, hn, hn1, hm1⟩, kind⟩, q⟩ := hv
  rcases kind with ⟨i, rfl⟩ | ⟨ds, hds⟩
  · cases hd
    obtain ⟨t, rfl⟩ := r1
    have hz : i.natAbs.log2 < 1920 := by have := hn.sw; rw [PyData.showable] at this; exact of_decide_eq_true this
    rw [PyData.shown] at q
    exact pyReprObj_int hz (wpAny_formatField_str ⟨.str (toString i), H1, I1.tok _, ⟨_, rfl⟩, q⟩ ⟨.str (toString i), H1, I1.tok _, ⟨_, rfl⟩, q⟩ (int_text_fits hz))
  · obtain ⟨b, xs, rfl, _, _⟩ := items_at hd hds
    have ru' := r1
    cases r1
    obtain ⟨as, rd⟩ := Dp.reads I1 d (.ref b) _ hd ru'
    refine pyReprObj_of_reads rd hn.sw (fun z => by rw [hn.nd] at z; cases z) hg (by have := hn.dp; omega) (fun _ _ z => z) (fun h' u tk kp => ?_) (hn.fits hn1)
    have I2 := I1.kept (t' := tk) kp
    exact wpAny_formatField_str ⟨.str d.shown, H1, I2, ⟨_, rfl⟩, q⟩ ⟨.str d.shown, H1, I2.tok _, ⟨_, rfl⟩, q⟩ (hn.fits hn1)
end
/-! keywords -/
theorem kbn_of {K : PySem.W.Frag} {fd : FuncData} {ps ks : List Str} {n : Nat} (h : ∀ us ws : List Value, us.length = n → ws.length = ks.length → bindArgs fd ⟨us, ks.zip ws⟩ = pure (ps.zip (us ++ ws))) : KBn K fd ps n ks (fun us ws => us ++ ws) (fun vs zs => vs ++ zs) :=
  ⟨fun s us ws _ h1 h2 => .of_eq (h us ws h1 h2), fun r1 r2 => r1.append r2⟩
section
variable {X : Cx} {k n : Nat} {f C : Addr} {fd : FuncData} {ps ks : List Str} {sp : Sp} {x m : Str} {p pos apos : Pos} {o : Expr} {kws : List Keyword} {ta : TE} {tk : TA} {pl : Sem Bool}
theorem run_kw {pins : List (Addr × Obj)} {σ : L2.St} {H : Hp} {s : Shared} {Q : VK} {us ws : List Value} {vs zs : List V} (F : FnOk X.prog X.w X.K X.mg X.base CX0 k f fd ps sp) (hr : Room k X.A) (hb : KBn X.K fd ps n ks (fun us ws => us ++ ws) (fun vs zs => vs ++ zs))
    (I : Inv X pins σ H s) (r : Vals vs us) (rz : Vals zs ws) (l1 : us.length = n) (l2 : ws.length = ks.length) (h : sp (vs ++ zs) H Q E0) : wpAny (model X.prog X.w) X.A (call (.ref f) us (ks.zip ws)) (EP X pins σ Q) X.xe s := by
  have r2 := hb.rel r rz
  refine wpAny_call (codeAny_mono (F.run X.A X.stack s H ⟨us, ks.zip ws⟩ (us ++ ws) (vs ++ zs) Q E0 hr I.env0 (hb.to s us ws I.kIn l1 l2) r2 h) fun r s' hq => ?_)
  cases r with
  | error e => exact (show False from hq).elim
  | ok fl =>
    cases fl with
    | ret u => exact I.after hq
    | next => exact (show False from hq).elim
    | brk => exact (show False from hq).elim
    | cont => exact (show False from hq).elim
def tCallK0 (n : Nat) (sp : Sp) (tk : TA) : TE := fun σ H Q => tk σ H fun zs H2 => zs.length = n ∧ sp zs H2 Q E0
/-- f(k = v) -/
theorem pe_kw0 (F : FnOk X.prog X.w X.K X.mg X.base CX0 k f fd ps sp) (hr : Room k X.A) (hg : Gl X x) (hm : X.mg x = some (.ref f)) (hk : PySem.W.keepIn X.K (.ref f) = true) (hb : KBn X.K fd ps 0 ks (fun us ws => us ++ ws) (fun vs zs => vs ++ zs)) (hkw : PK X kws tk)
    (hall : (backToKw pos (keywordEach kws X.env)).all (·.1.isSome) = true := by rfl) (hks : (backToKw pos (keywordEach kws X.env)).filterMap (·.1) = ks := by rfl) (hdb : (x == ("__debug__" : Str)) = false := by decide)
    (hpl : ((backTo pos (starEach [] X.env)).any (·.1) || (backToKw pos (keywordEach kws X.env)).any (·.1.isNone)) = false := by rfl) :
    PE X (.Call (.Name x p) [] kws pos) (tCallK0 ks.length sp tk) := by
  refine ⟨fun pins s σ H Q I h => ?_⟩
  refine wpAny_Call_Name_kw (ld_glob I hg hm ?_ hdb)
  refine PySem.W.callWith_KW0 (h₀ := X.base) I.ok.mod.kin hk hall ?_ hpl
  refine thn (hkw.run pos pins s σ H _ I h) fun ws s2 ⟨zs, H2, I2, rz, l2, q2⟩ => ⟨I2.kIn, ?_⟩
  rw [hks]
  exact run_kw (us := []) (vs := []) F hr hb I2 .nil rz rfl (rz.length.symm.trans l2) q2
def tMethK0 (C : Addr) (m : Str) (n : Nat) (sp : Sp) (ta : TE) (tk : TA) : TE := fun σ H Q => ta σ H fun x H1 => ∃ a dx fs, x = .ref a ∧ H1 a = some (.ins C dx fs) ∧ fs.lookup m = none ∧ tk σ H1 fun zs H2 => zs.length = n ∧ sp (x :: zs) H2 Q E0
/-- o.m(k = v) -/
theorem pe_methK0 (he : PE X o ta) (c : Cls X.K C) (hm : Meth X.K C m f) (F : FnOk X.prog X.w X.K X.mg X.base CX0 k f fd ps sp) (hr : Room k X.A) (hb : KBn X.K fd ps 1 ks (fun us ws => us ++ ws) (fun vs zs => vs ++ zs)) (hkw : PK X kws tk)
    (hall : (backToKw pos (keywordEach kws X.env)).all (·.1.isSome) = true := by rfl) (hks : (backToKw pos (keywordEach kws X.env)).filterMap (·.1) = ks := by rfl)
    (hpl : ((backTo pos (starEach [] X.env)).any (·.1) || (backToKw pos (keywordEach kws X.env)).any (·.1.isNone)) = false := by rfl)
    (ht : eval (.Call (.Attribute o m apos) [] kws pos) X.env = (do
      let ov ← eval o X.env; standAt apos.atName; let (f, first) ← holding [ov] (getMethod ov m pl); callWith pos f first (backTo pos (starEach [] X.env)) (backToKw pos (keywordEach kws X.env))) := by rfl) :
    PE X (.Call (.Attribute o m apos) [] kws pos) (tMethK0 C m ks.length sp ta tk) := by
  refine ⟨fun pins s σ H Q I h => ?_⟩
  refine PySem.W.methodCall_KW (pl := pl) (thn (he.run pins s σ H _ I h) fun u s1 ⟨x, H1, I1, rx, a, dx, fs, ex, ea, l, q⟩ => ?_) ht
  subst ex
  obtain rfl : u = Value.ref a := rx
  refine getmeth_ok I1 ea c hm l ?_
  refine PySem.W.callWith_KW0 (first := [.ref a]) (h₀ := X.base) I1.ok.mod.kin hm.kp hall ?_ hpl
  refine thn (hkw.run pos pins s1 σ H1 _ I1 q) fun ws s2 ⟨zs, H2, I2, rz, l2, q2⟩ => ⟨I2.kIn, ?_⟩
  rw [hks]
  exact run_kw (us := [.ref a]) (vs := [.ref a]) F hr hb I2 (.cons rfl .nil) rz rfl (rz.length.symm.trans l2) q2
end
end Kh

set_option maxRecDepth 100000
set_option maxHeartbeats 2000000
/-! x != y of two lists whose items have an own == -/
namespace GQ
open PySem PySem.SeqAt
open AutoSeq1 (wpAny_loadPart')
open MeetsSeq MeetsSeq2 MeetsSeq3 SeqRoads2
section
variable {prog : Program} {w : World} {A : Around} {R : Result → Shared → Prop}
theorem kh_neLoop (l b : Addr) (N : Nat) (J : Nat → Shared → Prop) (hJ : ListI prog w A (fun e s' => R (.error e) s') l b N J) (fin : ∀ s, J N s → R (.ok (.ret (.bool false))) s) (k : Nat) :
    ∀ i : Nat, N - i = k → i ≤ N → ∀ s, J i s → wpAny (model prog w) A.in1 (Builtin.«list.__eq__.loop» ⟨[.ref l, .ref b, rawInt i, rawInt 3], []⟩) (FinOf prog w A R) (fun e s' => R (.error e) s') s := by
  induction k with
  | zero =>
    intro i hk hi s h
    obtain ⟨us, vs, n, m, gl, gb, zu, zv, _⟩ := hJ _ _ h
    have ei : i = N := by omega
    have last : R (.ok (.ret (.bool false))) s := fin s (ei ▸ h)
    obtain ⟨hp, g, d, tk, os⟩ := s
    wp_walk using wpAny_loadPart' gl, wpAny_loadPart' gb
    have n1 : us[((i : Nat) : Int).toNat]? = none := by simp; omega
    have n2 : vs[((i : Nat) : Int).toNat]? = none := by simp; omega
    rw [n1, n2]
    wp_walk using wpAny_loadPart' gl, wpAny_loadPart' gb
    show R (.ok (.ret (.bool (us.size != vs.size)))) _
    rw [zu, zv]
    simpa using last
  | succ k ih =>
    intro i hk hi s h
    obtain ⟨us, vs, n, m, gl, gb, zu, zv, turn⟩ := hJ _ _ h
    have c1 : i < us.size := by omega
    have c2 : i < vs.size := by omega
    have here := turn c1 c2
    obtain ⟨hp, g, d, tk, os⟩ := s
    wp_walk using wpAny_loadPart' gl, wpAny_loadPart' gb
    have n1 : us[((i : Nat) : Int).toNat]? = some us[i] := by simp [c1]
    have n2 : vs[((i : Nat) : Int).toNat]? = some vs[i] := by simp [c2]
    have up : ((i : Int) + 1) = ((i + 1 : Nat) : Int) := by omega
    rw [n1, n2]
    refine wpAny_bind (wpAny_mono here (fun r s2 h2 => ?_) fun _ _ x => x)
    obtain ⟨er, h2⟩ := h2
    subst er
    have next := ih (i + 1) (by omega) (by omega) s2 h2
    obtain ⟨hp2, g2, d2, tk2, os2⟩ := s2
    wp_walk
    rw [up]
    exact ⟨plainId_quiet plain_eq_loop _, codeAny_builtin entry_eq_loop (by rw [Around.under_plainId plain_eq_loop _]; exact next)⟩
theorem kh_listNe (l b : Addr) (N : Nat) (J : Nat → Shared → Prop) (hJ : ListI prog w A (fun e s' => R (.error e) s') l b N J) (fin : ∀ s, J N s → R (.ok (.ret (.bool false))) s) {s : Shared} (h : J 0 s) :
    wpAny (model prog w) A.in1 (Builtin.«list.__ne__» ⟨[.ref l, .ref b], []⟩) (FinOf prog w A R) (fun e s' => R (.error e) s') s := by
  obtain ⟨us, vs, n, m, gl, gb, zu, zv, _⟩ := hJ _ _ h
  have next := kh_neLoop (A := A) (R := R) l b N J hJ fin _ 0 rfl (Nat.zero_le _) s h
  obtain ⟨hp, g, d, tk, os⟩ := s
  have f3 := AutoSeq1.sub_list_list
  have hne : ¬ (us.size != vs.size) = true := by simp [zu, zv]
  wp_walk using wpAny_loadPart' gl, wpAny_loadPart' gb
  exact ⟨plainId_quiet plain_eq_loop _, codeAny_builtin entry_eq_loop (by rw [Around.under_plainId plain_eq_loop _]; exact next)⟩
end
section
variable {prog : Program} {w : World} {A : Around} {E : Value → Shared → Prop} {s : Shared}
theorem kh_rcNe {l b : Addr} {N : Nat} {Q : Value → Shared → Prop} (hu : A.units < cLine) (J : Nat → Shared → Prop) (hJ : ListI prog w A E l b N J) (fin : ∀ s, J N s → Q (.bool false) s) (h : J 0 s) : wpAny (model prog w) A (richCompare .NotEq (.ref l) (.ref b)) Q E s := by
  obtain ⟨us, vs, n, m, gl, gb, _, _, _⟩ := hJ _ _ h
  refine wpAny_richCompare_same_room (op := .NotEq) ⟨_, gl, rfl⟩ ⟨_, gb, rfl⟩ F.slot_list_ne (call_here F.slot_list_ne ⟨_, gl, rfl⟩ F.entry_list_ne (F.args_list_ne_2 _ _) ?_) hu
  exact kh_listNe (R := wants (fun v s' => v ≠ .notImplemented ∧ Q v s') E) l b N J hJ (fun s' q => ⟨(fun x => nomatch x), fin s' q⟩) h
end
end GQ
namespace Kh
open PySem PySem.Spec PyProof.Rows L2
section
variable {X : Cx} {n : Nat} {D : Eqv}
def rNeGL (D : Eqv) : R2 := fun x y H Q => DList D x y H ∧ ∀ H', Same H H' → Q (.bl false) H'
theorem op_neGL (hD : Mon D) (h : EqG X n D) (hr : Room (n + 1) X.A) : OpR X (compareOp .NotEq) (rNeGL D) := by
  intro pins s σ H x y v u Q I rx ry hq
  obtain ⟨⟨a, b, xs, ys, rfl, rfl, ha, hb, p⟩, q⟩ := hq
  cases rx
  cases ry
  have sb : Sub X (n + 1) X.A := ⟨hr, rfl⟩
  refine GQ.kh_rcNe (N := xs.length) sb.room.units0 (fun _ s' => LoopI X pins σ H s') (fun i s' z => ?_) (fun s' z => ?_) ⟨H, I, Ext.rfl'⟩
  · obtain ⟨H1, I1, e1⟩ := id z
    obtain ⟨_, its, k, r, e⟩ := I1.hok a _ (e1 _ _ ha)
    obtain ⟨_, its2, k2, r2, e2⟩ := I1.hok b _ (e1 _ _ hb)
    exact ⟨its.toArray, its2.toArray, k, k2, e, e2, by rw [List.size_toArray, ← r.length], by rw [List.size_toArray, ← r2.length, ← p.1], fun h1 h2 => turnG hD h sb p r r2 i h1 h2 s' z⟩
  · obtain ⟨H1, I1, e1⟩ := z
    exact ⟨.bl false, H1, I1, rfl, q H1 e1⟩
end
end Kh

set_option maxRecDepth 100000
set_option maxHeartbeats 4000000
namespace Kh
open PySem PySem.Spec PyProof.Rows L2
/-! the law's promise where the guards are told -/
section
variable {P : Program} {w : World} {K : PySem.W.Frag} {mg mb : Str → Option Value} {s : Shared} {H : Hp} {a b : Addr} {o : Obj}
/-- what stands behind the top -/
structure Top (K : PySem.W.Frag) (mg mb : Str → Option Value) (s : Shared) : Prop where
  kin : K.In s.heap
  own : s.heap.Ns mainGlobals mg
  bui : s.heap.Ns builtinsNs mb
  boot : ∀ y : Str, y ≠ "__name__" → mb y = bootBuiltins y
  lim : s.heap.NoLimit
  gen : s.gens = #[]
/-- H knows frozen lists alone, none of them of K -/
def Thin (K : PySem.W.Frag) (s : Shared) (H : Hp) : Prop := ∀ c u, H c = some u → K.lookup c = none ∧ ∃ p xs v n, u = .frz p (.lst xs) ∧ s.heap.get? c = some p ∧ p.data = .seq v n
theorem Thin.get (t : Thin K s H) (g : s.heap.get? b = some o) (n : K.lookup b ≠ none ∨ ∃ es ep, o.data = .dict es ep) : (hidT s.heap H).get? b = some o := by
  refine hidT_get g (Classical.byContradiction fun z => ?_)
  obtain ⟨u, hu⟩ := Option.ne_none_iff_exists'.mp z
  obtain ⟨k, p, xs, v, m, _, g2, d⟩ := t b u hu
  rcases n with n | ⟨es, ep, n⟩
  · exact n k
  · rw [Option.some.inj (g.symm.trans g2), d] at n
    cases n
theorem Thin.ns {m : Str → Option Value} (t : Thin K s H) (h : s.heap.Ns b m) : (hidT s.heap H).Ns b m := by
  obtain ⟨p, es, ep, g, d, r⟩ := h
  exact ⟨p, es, ep, t.get g (.inr ⟨es, ep, d⟩), d, r⟩
theorem Thin.kin (t : Thin K s H) (h : K.In s.heap) : K.In (hidT s.heap H) := fun c p l => t.get (h c p l) (.inl (by rw [l]; exact fun z => nomatch z))
theorem Top.env (T : Top K mg mb s) (t : Thin K s H) (ok : HOk P w H s.heap) : Env0 P w K mg (hidT s.heap H) callerA [] s H where
  frames := rfl
  mod := ⟨t.kin T.kin, t.ns T.own, ⟨mb, t.ns T.bui, T.boot⟩, by
    obtain ⟨mc, l1, l2⟩ := T.lim
    exact ⟨mc, t.ns l1, l2⟩⟩
  bs := fun _ _ g => of_hidT g
  bsz := Nat.le_of_eq (hidT_size _ _)
  funs := trivial
  frf := fun _ z => nomatch z
  hok := ok
  bare := .of_eq T.gen
/-- a call of the law has ended so -/
theorem Thin.done (t : Thin K s H) (ok : HOk P w H s.heap) {r : Result} {s' : Shared} (h : CR CX0 [] P w H s (fun v _ => v = .bl true) (fun _ _ _ => False) r s') : r = .ok (.ret (.bool true)) ∧ OldK s.heap s'.heap ∧ s'.os = s.os ∧ AllBare s'.gens := by
  match r, h with
  | .ok (.ret u), ⟨v, H', eo, ab, n, ok', rv, q⟩ =>
    have q : v = .bl true := q
    rw [q] at rv
    have rv : u = Value.bool true := rv
    refine ⟨by rw [rv], OldK.of_keep fun c p g => ?_, eo, ab⟩
    cases e : H c with
    | none => exact n.keep c p g e (fun z => nomatch z) (fun z => nomatch z)
    | some x =>
      obtain ⟨_, p', xs, _, _, rfl, _⟩ := t c x e
      rw [(ok c _ e).1] at g
      rw [← g]
      exact (ok' c _ (n.frzs c p' _ e)).1
/-- the script, known -/
theorem thin_of {vs : List Value} {ns : List Int} (T : Top K mg mb s) (g : s.heap.get? a = some { cls := .type "list", data := .seq vs.toArray }) (r : IntsAre vs ns) (l : ns.length ≤ sizeLine) : ∃ H, Thin K s H ∧ HOk P w H s.heap ∧ SqL K H a (ns.map V.int) := by
  by_cases k : K.lookup a = none
  · refine ⟨upd (fun _ => none) a (.frz { cls := .type "list", data := .seq vs.toArray } (.lst (ns.map V.int))), ?_, ?_, .inl (.inr ⟨_, upd_same⟩)⟩
    all_goals
      intro c u hu
      by_cases e : c = a
      · rw [e, upd_same] at hu
        obtain rfl := Option.some.inj hu
        rw [e]
        first
          | exact ⟨k, _, _, _, _, rfl, g, rfl⟩
          | exact ⟨g, by rw [List.length_map]; exact l, vs, _, vals_ints r, g⟩
      · rw [upd_ne e] at hu
        cases hu
  · obtain ⟨p, hp⟩ := Option.ne_none_iff_exists'.mp k
    obtain rfl := Option.some.inj (g.symm.trans (T.kin a p hp))
    exact ⟨fun _ => none, fun _ _ z => (nomatch z), fun _ _ z => (nomatch z), .inr ⟨_, vs.toArray, _, hp, rfl, rfl, rfl, by rw [List.size_toArray, r.length]; exact l, by simpa using vals_ints r⟩⟩
end
/-- from the promise of the law's def to the walk of the law -/
theorem walk_g {l : PySem.W.OpenLaw} {n k : Nat} {q : Program} {loose : List Str} {XP : (Str → Option Value) → Heap → Prop} {YP : World → Heap → Prop} {d : DefRec} {K : Params → PySem.W.Frag} {sp : World → Sp} {x : Str} (most : l.most = some n) (le : n ≤ sizeLine) (df : d.params.defaults = []) (room : Room k callerA)
    (kin : ∀ (w : World) (h : Heap), YP w h → (K w.params).In h)
    (F : ∀ (w : World) (mg : Str → Option Value) (fa : Addr) (h : Heap), (K w.params).In h → h.Ns mainGlobals mg → mg d.name = some (.ref fa) → ∃ fd : FuncData, (∀ (s : Shared) (u : Value), BindsTo s fd ⟨[u], []⟩ [(x, u)]) ∧ ∀ base : Heap, (K w.params).In base → base.Ns mainGlobals mg → FnG l.prog w (K w.params) mg base k fa fd [x] (sp w))
    (holds : ∀ (w : World) (H : Hp) (a : Addr) (ns : List Int), ns.length ≤ n → SqL (K w.params) H a (ns.map V.int) → sp w [.ref a] H (fun v _ => v = .bl true) fun _ _ _ => False) : PySem.W.WalkO q loose XP YP l.row.toRowW d [] (fun f vs => PySem.call f vs) :=
  Att.attach_call most df fun w _ s mg mb fa _ _ _ _ a vs ns G Y _ _ _ hf hs hi hl hg => by
    have T : Top (K w.params) mg mb s := ⟨kin w _ Y, G.T.g, G.T.b, G.T.builtins, G.T.nolimit, hg⟩
    obtain ⟨fd, bd, R⟩ := F w mg fa _ T.kin T.own hf
    obtain ⟨H, t, ok, sq⟩ := thin_of (P := l.prog) (w := w) T hs hi (Nat.le_trans hl le)
    exact codeAny_mono ((R _ (t.kin T.kin) (t.ns T.own)).run callerA [] s H ⟨[.ref a], []⟩ [.ref a] [.ref a] _ _ rfl room (T.env t ok) (bd s (.ref a)) (.cons rfl .nil) (holds w H a ns hl sq)) fun r s' h => t.done ok h
end Kh

set_option maxRecDepth 100000
set_option maxHeartbeats 4000000
namespace K31
open PySem PySem.Spec PyProof.Rows L2 Kh
def top (i : Nat) : Stmt := PySem.Challenge.pw_oneshelf_k31_whole_trees_told.main.body.getD i (.Pass ⟨0, 0, 0, 0⟩)
abbrev is_integer_s : Stmt := top 1
abbrev is_integer_N : List Str := ["value"]
theorem sc_is_integer : FnScope is_integer_N ["value"] (defScope is_integer_s) := ⟨rfl, rfl, rfl, by decide +kernel, rfl, by decide +kernel, by decide +kernel⟩
abbrev is_count_s : Stmt := top 2
abbrev is_count_N : List Str := ["value"]
theorem sc_is_count : FnScope is_count_N ["value"] (defScope is_count_s) := ⟨rfl, rfl, rfl, by decide +kernel, rfl, by decide +kernel, by decide +kernel⟩
abbrev is_list_s : Stmt := top 3
abbrev is_list_N : List Str := ["value"]
theorem sc_is_list : FnScope is_list_N ["value"] (defScope is_list_s) := ⟨rfl, rfl, rfl, by decide +kernel, rfl, by decide +kernel, by decide +kernel⟩
abbrev is_number_below_s : Stmt := top 4
abbrev is_number_below_N : List Str := ["value", "many"]
theorem sc_is_number_below : FnScope is_number_below_N ["value", "many"] (defScope is_number_below_s) := ⟨rfl, rfl, rfl, by decide +kernel, rfl, by decide +kernel, by decide +kernel⟩
abbrev is_gate_s : Stmt := top 17
abbrev is_gate_N : List Str := ["value"]
theorem sc_is_gate : FnScope is_gate_N ["value"] (defScope is_gate_s) := ⟨rfl, rfl, rfl, by decide +kernel, rfl, by decide +kernel, by decide +kernel⟩
abbrev is_tree_s : Stmt := top 18
abbrev is_tree_N : List Str := ["value", "waiting", "part"]
theorem sc_is_tree : FnScope is_tree_N ["value"] (defScope is_tree_s) := ⟨rfl, rfl, rfl, by decide +kernel, rfl, by decide +kernel, by decide +kernel⟩
abbrev firm_s : Stmt := top 19
abbrev firm_N : List Str := ["shape", "part"]
theorem sc_firm : FnScope firm_N ["shape"] (defScope firm_s) := ⟨rfl, rfl, rfl, by decide +kernel, rfl, by decide +kernel, by decide +kernel⟩
abbrev listed_s : Stmt := top 20
abbrev listed_N : List Str := ["shape", "part"]
theorem sc_listed : FnScope listed_N ["shape"] (defScope listed_s) := ⟨rfl, rfl, rfl, by decide +kernel, rfl, by decide +kernel, by decide +kernel⟩
abbrev leaves_s : Stmt := top 21
abbrev leaves_N : List Str := ["shape", "part", "house"]
theorem sc_leaves : FnScope leaves_N ["shape"] (defScope leaves_s) := ⟨rfl, rfl, rfl, by decide +kernel, rfl, by decide +kernel, by decide +kernel⟩
abbrev depth_s : Stmt := top 22
abbrev depth_N : List Str := ["shape", "part"]
theorem sc_depth : FnScope depth_N ["shape"] (defScope depth_s) := ⟨rfl, rfl, rfl, by decide +kernel, rfl, by decide +kernel, by decide +kernel⟩
abbrev contrary_s : Stmt := top 23
abbrev contrary_N : List Str := ["shape", "parts", "part"]
theorem sc_contrary : FnScope contrary_N ["shape"] (defScope contrary_s) := ⟨rfl, rfl, rfl, by decide +kernel, rfl, by decide +kernel, by decide +kernel⟩
abbrev stands_in_s : Stmt := top 24
abbrev stands_in_N : List Str := ["shape", "houses", "part"]
theorem sc_stands_in : FnScope stands_in_N ["shape", "houses"] (defScope stands_in_s) := ⟨rfl, rfl, rfl, by decide +kernel, rfl, by decide +kernel, by decide +kernel⟩
abbrev are_houses_s : Stmt := top 25
abbrev are_houses_N : List Str := ["members", "value", "unlike", "house"]
theorem sc_are_houses : FnScope are_houses_N ["members", "value"] (defScope are_houses_s) := ⟨rfl, rfl, rfl, by decide +kernel, rfl, by decide +kernel, by decide +kernel⟩
abbrev Tree_init_s : Stmt := inClass (top 26) 0
abbrev Tree_init_N : List Str := ["self", "shape", "house"]
theorem sc_Tree_init : FnScope Tree_init_N ["self", "shape"] (defScope Tree_init_s) := ⟨rfl, rfl, rfl, by decide +kernel, rfl, by decide +kernel, by decide +kernel⟩
abbrev Tree_of_s : Stmt := inClass (top 26) 1
abbrev Tree_of_N : List Str := ["number", "parts", "shapes", "part"]
theorem sc_Tree_of : FnScope Tree_of_N ["number", "parts"] (defScope Tree_of_s) := ⟨rfl, rfl, rfl, by decide +kernel, rfl, by decide +kernel, by decide +kernel⟩
abbrev Tree_shape_s : Stmt := inClass (top 26) 2
abbrev Tree_shape_N : List Str := ["self"]
theorem sc_Tree_shape : FnScope Tree_shape_N ["self"] (defScope Tree_shape_s) := ⟨rfl, rfl, rfl, by decide +kernel, rfl, by decide +kernel, by decide +kernel⟩
abbrev Tree_is_plain_s : Stmt := inClass (top 26) 3
abbrev Tree_is_plain_N : List Str := ["self"]
theorem sc_Tree_is_plain : FnScope Tree_is_plain_N ["self"] (defScope Tree_is_plain_s) := ⟨rfl, rfl, rfl, by decide +kernel, rfl, by decide +kernel, by decide +kernel⟩
abbrev Tree_members_s : Stmt := inClass (top 26) 4
abbrev Tree_members_N : List Str := ["self"]
theorem sc_Tree_members : FnScope Tree_members_N ["self"] (defScope Tree_members_s) := ⟨rfl, rfl, rfl, by decide +kernel, rfl, by decide +kernel, by decide +kernel⟩
abbrev Tree_stands_s : Stmt := inClass (top 26) 5
abbrev Tree_stands_N : List Str := ["self", "houses"]
theorem sc_Tree_stands : FnScope Tree_stands_N ["self", "houses"] (defScope Tree_stands_s) := ⟨rfl, rfl, rfl, by decide +kernel, rfl, by decide +kernel, by decide +kernel⟩
abbrev Tree_len_s : Stmt := inClass (top 26) 6
abbrev Tree_len_N : List Str := ["self"]
theorem sc_Tree_len : FnScope Tree_len_N ["self"] (defScope Tree_len_s) := ⟨rfl, rfl, rfl, by decide +kernel, rfl, by decide +kernel, by decide +kernel⟩
abbrev Tree_contains_s : Stmt := inClass (top 26) 7
abbrev Tree_contains_N : List Str := ["self", "x"]
theorem sc_Tree_contains : FnScope Tree_contains_N ["self", "x"] (defScope Tree_contains_s) := ⟨rfl, rfl, rfl, by decide +kernel, rfl, by decide +kernel, by decide +kernel⟩
abbrev Tree_invert_s : Stmt := inClass (top 26) 8
abbrev Tree_invert_N : List Str := ["self"]
theorem sc_Tree_invert : FnScope Tree_invert_N ["self"] (defScope Tree_invert_s) := ⟨rfl, rfl, rfl, by decide +kernel, rfl, by decide +kernel, by decide +kernel⟩
abbrev Tree_and_s : Stmt := inClass (top 26) 9
abbrev Tree_and_N : List Str := ["self", "other"]
theorem sc_Tree_and : FnScope Tree_and_N ["self", "other"] (defScope Tree_and_s) := ⟨rfl, rfl, rfl, by decide +kernel, rfl, by decide +kernel, by decide +kernel⟩
abbrev Tree_or_s : Stmt := inClass (top 26) 10
abbrev Tree_or_N : List Str := ["self", "other"]
theorem sc_Tree_or : FnScope Tree_or_N ["self", "other"] (defScope Tree_or_s) := ⟨rfl, rfl, rfl, by decide +kernel, rfl, by decide +kernel, by decide +kernel⟩
abbrev Tree_eq_s : Stmt := inClass (top 26) 11
abbrev Tree_eq_N : List Str := ["self", "other"]
theorem sc_Tree_eq : FnScope Tree_eq_N ["self", "other"] (defScope Tree_eq_s) := ⟨rfl, rfl, rfl, by decide +kernel, rfl, by decide +kernel, by decide +kernel⟩
abbrev Tree_repr_s : Stmt := inClass (top 26) 12
abbrev Tree_repr_N : List Str := ["self"]
theorem sc_Tree_repr : FnScope Tree_repr_N ["self"] (defScope Tree_repr_s) := ⟨rfl, rfl, rfl, by decide +kernel, rfl, by decide +kernel, by decide +kernel⟩
abbrev _law_pot_s : Stmt := top 28
abbrev _law_pot_N : List Str := ["_law_script", "_law_k", "_law_cell"]
theorem sc__law_pot : FnScope _law_pot_N ["_law_script", "_law_k"] (defScope _law_pot_s) := ⟨rfl, rfl, rfl, by decide +kernel, rfl, by decide +kernel, by decide +kernel⟩
abbrev _law_draw_s : Stmt := top 29
abbrev _law_draw_N : List Str := ["_law_pot_here", "_law_many", "_law_digit"]
theorem sc__law_draw : FnScope _law_draw_N ["_law_pot_here", "_law_many"] (defScope _law_draw_s) := ⟨rfl, rfl, rfl, by decide +kernel, rfl, by decide +kernel, by decide +kernel⟩
abbrev _law_pick_s : Stmt := top 30
abbrev _law_pick_N : List Str := ["_law_pot_here", "_law_menu"]
theorem sc__law_pick : FnScope _law_pick_N ["_law_pot_here", "_law_menu"] (defScope _law_pick_s) := ⟨rfl, rfl, rfl, by decide +kernel, rfl, by decide +kernel, by decide +kernel⟩
abbrev _law_mixed_s : Stmt := top 31
abbrev _law_mixed_N : List Str := ["_law_pot_here", "_law_some", "_law_left", "_law_found"]
theorem sc__law_mixed : FnScope _law_mixed_N ["_law_pot_here", "_law_some"] (defScope _law_mixed_s) := ⟨rfl, rfl, rfl, by decide +kernel, rfl, by decide +kernel, by decide +kernel⟩
abbrev _law_names_s : Stmt := top 32
abbrev _law_names_N : List Str := ["_law_pot_here", "_law_many"]
theorem sc__law_names : FnScope _law_names_N ["_law_pot_here", "_law_many"] (defScope _law_names_s) := ⟨rfl, rfl, rfl, by decide +kernel, rfl, by decide +kernel, by decide +kernel⟩
abbrev _law_parted_s : Stmt := top 33
abbrev _law_parted_N : List Str := ["_law_pot_here", "_law_tags", "_law_many", "_law_found", "_law_name"]
theorem sc__law_parted : FnScope _law_parted_N ["_law_pot_here", "_law_tags"] (defScope _law_parted_s) := ⟨rfl, rfl, rfl, by decide +kernel, rfl, by decide +kernel, by decide +kernel⟩
abbrev _law_plain_s : Stmt := top 34
abbrev _law_plain_N : List Str := ["_law_pot_here", "_law_tags", "_law_deep", "_law_parts", "_law_part"]
theorem sc__law_plain : FnScope _law_plain_N ["_law_pot_here", "_law_tags", "_law_deep"] (defScope _law_plain_s) := ⟨rfl, rfl, rfl, by decide +kernel, rfl, by decide +kernel, by decide +kernel⟩
abbrev _law_any_s : Stmt := top 35
abbrev _law_any_N : List Str := ["_law_pot_here", "_law_tags", "_law_deep", "_law_parts", "_law_turn"]
theorem sc__law_any : FnScope _law_any_N ["_law_pot_here", "_law_tags", "_law_deep"] (defScope _law_any_s) := ⟨rfl, rfl, rfl, by decide +kernel, rfl, by decide +kernel, by decide +kernel⟩
abbrev _law_shape_s : Stmt := top 36
abbrev _law_shape_N : List Str := ["_law_pot_here", "_law_most", "_law_tags"]
theorem sc__law_shape : FnScope _law_shape_N ["_law_pot_here", "_law_most"] (defScope _law_shape_s) := ⟨rfl, rfl, rfl, by decide +kernel, rfl, by decide +kernel, by decide +kernel⟩
abbrev _law_leaves_s : Stmt := top 37
abbrev _law_leaves_N : List Str := ["_law_sketch", "_law_found", "_law_part"]
theorem sc__law_leaves : FnScope _law_leaves_N ["_law_sketch"] (defScope _law_leaves_s) := ⟨rfl, rfl, rfl, by decide +kernel, rfl, by decide +kernel, by decide +kernel⟩
abbrev _law_houses_s : Stmt := top 38
abbrev _law_houses_N : List Str := ["_law_sketch"]
theorem sc__law_houses : FnScope _law_houses_N ["_law_sketch"] (defScope _law_houses_s) := ⟨rfl, rfl, rfl, by decide +kernel, rfl, by decide +kernel, by decide +kernel⟩
abbrev _law_is_plain_s : Stmt := top 39
abbrev _law_is_plain_N : List Str := ["_law_sketch"]
theorem sc__law_is_plain : FnScope _law_is_plain_N ["_law_sketch"] (defScope _law_is_plain_s) := ⟨rfl, rfl, rfl, by decide +kernel, rfl, by decide +kernel, by decide +kernel⟩
abbrev _law_stands_s : Stmt := top 40
abbrev _law_stands_N : List Str := ["_law_sketch", "_law_some", "_law_part"]
theorem sc__law_stands : FnScope _law_stands_N ["_law_sketch", "_law_some"] (defScope _law_stands_s) := ⟨rfl, rfl, rfl, by decide +kernel, rfl, by decide +kernel, by decide +kernel⟩
abbrev _law_turned_s : Stmt := top 41
abbrev _law_turned_N : List Str := ["_law_sketch", "_law_part"]
theorem sc__law_turned : FnScope _law_turned_N ["_law_sketch"] (defScope _law_turned_s) := ⟨rfl, rfl, rfl, by decide +kernel, rfl, by decide +kernel, by decide +kernel⟩
abbrev _law_lists_s : Stmt := top 42
abbrev _law_lists_N : List Str := ["_law_some", "_law_found", "_law_near", "_law_part", "_law_size"]
theorem sc__law_lists : FnScope _law_lists_N ["_law_some"] (defScope _law_lists_s) := ⟨rfl, rfl, rfl, by decide +kernel, rfl, by decide +kernel, by decide +kernel⟩
abbrev _law_tupled_s : Stmt := top 43
abbrev _law_tupled_N : List Str := ["_law_sketch", "_law_part"]
theorem sc__law_tupled : FnScope _law_tupled_N ["_law_sketch"] (defScope _law_tupled_s) := ⟨rfl, rfl, rfl, by decide +kernel, rfl, by decide +kernel, by decide +kernel⟩
abbrev _law_listed_s : Stmt := top 44
abbrev _law_listed_N : List Str := ["_law_sketch", "_law_part"]
theorem sc__law_listed : FnScope _law_listed_N ["_law_sketch"] (defScope _law_listed_s) := ⟨rfl, rfl, rfl, by decide +kernel, rfl, by decide +kernel, by decide +kernel⟩
abbrev _law_spoil_s : Stmt := top 45
abbrev _law_spoil_N : List Str := ["_law_sketch", "_law_part"]
theorem sc__law_spoil : FnScope _law_spoil_N ["_law_sketch"] (defScope _law_spoil_s) := ⟨rfl, rfl, rfl, by decide +kernel, rfl, by decide +kernel, by decide +kernel⟩
abbrev _law_told_right_s : Stmt := top 46
abbrev _law_told_right_N : List Str := ["_law_plant", "_law_sketch", "_law_tags", "_law_due", "_law_some", "_law_handed", "_law_name", "_law_odd"]
theorem sc__law_told_right : FnScope _law_told_right_N ["_law_plant", "_law_sketch"] (defScope _law_told_right_s) := ⟨rfl, rfl, rfl, by decide +kernel, rfl, by decide +kernel, by decide +kernel⟩
abbrev _law_turned_right_s : Stmt := top 47
abbrev _law_turned_right_N : List Str := ["_law_plant", "_law_sketch", "_law_tags", "_law_there", "_law_some", "_law_name"]
theorem sc__law_turned_right : FnScope _law_turned_right_N ["_law_plant", "_law_sketch", "_law_tags"] (defScope _law_turned_right_s) := ⟨rfl, rfl, rfl, by decide +kernel, rfl, by decide +kernel, by decide +kernel⟩
abbrev _law_joined_right_s : Stmt := top 48
abbrev _law_joined_right_N : List Str := ["_law_pot_here", "_law_plant", "_law_sketch", "_law_second", "_law_there", "_law_both", "_law_dues", "_law_joint", "_law_due", "_law_told", "_law_here", "_law_name"]
theorem sc__law_joined_right : FnScope _law_joined_right_N ["_law_pot_here", "_law_plant", "_law_sketch"] (defScope _law_joined_right_s) := ⟨rfl, rfl, rfl, by decide +kernel, rfl, by decide +kernel, by decide +kernel⟩
abbrev _law_right_s : Stmt := top 49
abbrev _law_right_N : List Str := ["_law_pot_here", "_law_sketch", "_law_way", "_law_handed", "_law_plant", "_law_tags", "_law_turn", "_law_name"]
theorem sc__law_right : FnScope _law_right_N ["_law_pot_here"] (defScope _law_right_s) := ⟨rfl, rfl, rfl, by decide +kernel, rfl, by decide +kernel, by decide +kernel⟩
abbrev law_s : Stmt := top 50
abbrev law_N : List Str := ["_law_script", "_law_k"]
theorem sc_law : FnScope law_N ["_law_script"] (defScope law_s) := ⟨rfl, rfl, rfl, by decide +kernel, rfl, by decide +kernel, by decide +kernel⟩
structure Txt (K : PySem.W.Frag) (mg : Str → Option Value) (a : Nat → Addr) (fd : Nat → FuncData) (C : Addr) (tk : Nat → Tok) : Prop where
  F_is_integer : Fun K "is_integer" "is_integer" is_integer_s (a 0) (fd 0)
  m_is_integer : mg "is_integer" = some (.ref (a 0))
  b_is_integer : Binds K (fd 0) ["value"] []
  F_is_count : Fun K "is_count" "is_count" is_count_s (a 1) (fd 1)
  m_is_count : mg "is_count" = some (.ref (a 1))
  b_is_count : Binds K (fd 1) ["value"] []
  F_is_list : Fun K "is_list" "is_list" is_list_s (a 2) (fd 2)
  m_is_list : mg "is_list" = some (.ref (a 2))
  b_is_list : Binds K (fd 2) ["value"] []
  F_is_number_below : Fun K "is_number_below" "is_number_below" is_number_below_s (a 3) (fd 3)
  m_is_number_below : mg "is_number_below" = some (.ref (a 3))
  b_is_number_below : Binds K (fd 3) ["value", "many"] []
  F_is_gate : Fun K "is_gate" "is_gate" is_gate_s (a 4) (fd 4)
  m_is_gate : mg "is_gate" = some (.ref (a 4))
  b_is_gate : Binds K (fd 4) ["value"] []
  F_is_tree : Fun K "is_tree" "is_tree" is_tree_s (a 5) (fd 5)
  m_is_tree : mg "is_tree" = some (.ref (a 5))
  b_is_tree : Binds K (fd 5) ["value"] []
  F_firm : Fun K "firm" "firm" firm_s (a 6) (fd 6)
  m_firm : mg "firm" = some (.ref (a 6))
  b_firm : Binds K (fd 6) ["shape"] []
  F_listed : Fun K "listed" "listed" listed_s (a 7) (fd 7)
  m_listed : mg "listed" = some (.ref (a 7))
  b_listed : Binds K (fd 7) ["shape"] []
  F_leaves : Fun K "leaves" "leaves" leaves_s (a 8) (fd 8)
  m_leaves : mg "leaves" = some (.ref (a 8))
  b_leaves : Binds K (fd 8) ["shape"] []
  F_depth : Fun K "depth" "depth" depth_s (a 9) (fd 9)
  m_depth : mg "depth" = some (.ref (a 9))
  b_depth : Binds K (fd 9) ["shape"] []
  F_contrary : Fun K "contrary" "contrary" contrary_s (a 10) (fd 10)
  m_contrary : mg "contrary" = some (.ref (a 10))
  b_contrary : Binds K (fd 10) ["shape"] []
  F_stands_in : Fun K "stands_in" "stands_in" stands_in_s (a 11) (fd 11)
  m_stands_in : mg "stands_in" = some (.ref (a 11))
  b_stands_in : Binds K (fd 11) ["shape", "houses"] []
  F_are_houses : Fun K "are_houses" "are_houses" are_houses_s (a 12) (fd 12)
  m_are_houses : mg "are_houses" = some (.ref (a 12))
  b_are_houses : Binds K (fd 12) ["members", "value"] []
  F_Tree_init : Fun K "__init__" "Tree.__init__" Tree_init_s (a 13) (fd 13)
  b_Tree_init : Binds K (fd 13) ["self", "shape"] []
  F_Tree_of : Fun K "of" "Tree.of" Tree_of_s (a 14) (fd 14)
  F_Tree_shape : Fun K "shape" "Tree.shape" Tree_shape_s (a 15) (fd 15)
  b_Tree_shape : Binds K (fd 15) ["self"] []
  F_Tree_is_plain : Fun K "is_plain" "Tree.is_plain" Tree_is_plain_s (a 16) (fd 16)
  b_Tree_is_plain : Binds K (fd 16) ["self"] []
  F_Tree_members : Fun K "members" "Tree.members" Tree_members_s (a 17) (fd 17)
  b_Tree_members : Binds K (fd 17) ["self"] []
  F_Tree_stands : Fun K "stands" "Tree.stands" Tree_stands_s (a 18) (fd 18)
  b_Tree_stands : Binds K (fd 18) ["self", "houses"] []
  F_Tree_len : Fun K "__len__" "Tree.__len__" Tree_len_s (a 19) (fd 19)
  b_Tree_len : Binds K (fd 19) ["self"] []
  F_Tree_contains : Fun K "__contains__" "Tree.__contains__" Tree_contains_s (a 20) (fd 20)
  b_Tree_contains : Binds K (fd 20) ["self", "x"] []
  F_Tree_invert : Fun K "__invert__" "Tree.__invert__" Tree_invert_s (a 21) (fd 21)
  b_Tree_invert : Binds K (fd 21) ["self"] []
  F_Tree_and : Fun K "__and__" "Tree.__and__" Tree_and_s (a 22) (fd 22)
  b_Tree_and : Binds K (fd 22) ["self", "other"] []
  F_Tree_or : Fun K "__or__" "Tree.__or__" Tree_or_s (a 23) (fd 23)
  b_Tree_or : Binds K (fd 23) ["self", "other"] []
  F_Tree_eq : Fun K "__eq__" "Tree.__eq__" Tree_eq_s (a 24) (fd 24)
  b_Tree_eq : Binds K (fd 24) ["self", "other"] []
  F_Tree_repr : Fun K "__repr__" "Tree.__repr__" Tree_repr_s (a 25) (fd 25)
  b_Tree_repr : Binds K (fd 25) ["self"] []
  F__law_pot : Fun K "_law_pot" "_law_pot" _law_pot_s (a 26) (fd 26)
  m__law_pot : mg "_law_pot" = some (.ref (a 26))
  b__law_pot : Binds K (fd 26) ["_law_script", "_law_k"] []
  F__law_draw : Fun K "_law_draw" "_law_draw" _law_draw_s (a 27) (fd 27)
  m__law_draw : mg "_law_draw" = some (.ref (a 27))
  b__law_draw : Binds K (fd 27) ["_law_pot_here", "_law_many"] []
  F__law_pick : Fun K "_law_pick" "_law_pick" _law_pick_s (a 28) (fd 28)
  m__law_pick : mg "_law_pick" = some (.ref (a 28))
  b__law_pick : Binds K (fd 28) ["_law_pot_here", "_law_menu"] []
  F__law_mixed : Fun K "_law_mixed" "_law_mixed" _law_mixed_s (a 29) (fd 29)
  m__law_mixed : mg "_law_mixed" = some (.ref (a 29))
  b__law_mixed : Binds K (fd 29) ["_law_pot_here", "_law_some"] []
  F__law_names : Fun K "_law_names" "_law_names" _law_names_s (a 30) (fd 30)
  m__law_names : mg "_law_names" = some (.ref (a 30))
  b__law_names : Binds K (fd 30) ["_law_pot_here", "_law_many"] []
  F__law_parted : Fun K "_law_parted" "_law_parted" _law_parted_s (a 31) (fd 31)
  m__law_parted : mg "_law_parted" = some (.ref (a 31))
  b__law_parted : Binds K (fd 31) ["_law_pot_here", "_law_tags"] []
  F__law_plain : Fun K "_law_plain" "_law_plain" _law_plain_s (a 32) (fd 32)
  m__law_plain : mg "_law_plain" = some (.ref (a 32))
  b__law_plain : Binds K (fd 32) ["_law_pot_here", "_law_tags", "_law_deep"] []
  F__law_any : Fun K "_law_any" "_law_any" _law_any_s (a 33) (fd 33)
  m__law_any : mg "_law_any" = some (.ref (a 33))
  b__law_any : Binds K (fd 33) ["_law_pot_here", "_law_tags", "_law_deep"] []
  F__law_shape : Fun K "_law_shape" "_law_shape" _law_shape_s (a 34) (fd 34)
  m__law_shape : mg "_law_shape" = some (.ref (a 34))
  b__law_shape : Binds K (fd 34) ["_law_pot_here", "_law_most"] []
  F__law_leaves : Fun K "_law_leaves" "_law_leaves" _law_leaves_s (a 35) (fd 35)
  m__law_leaves : mg "_law_leaves" = some (.ref (a 35))
  b__law_leaves : Binds K (fd 35) ["_law_sketch"] []
  F__law_houses : Fun K "_law_houses" "_law_houses" _law_houses_s (a 36) (fd 36)
  m__law_houses : mg "_law_houses" = some (.ref (a 36))
  b__law_houses : Binds K (fd 36) ["_law_sketch"] []
  F__law_is_plain : Fun K "_law_is_plain" "_law_is_plain" _law_is_plain_s (a 37) (fd 37)
  m__law_is_plain : mg "_law_is_plain" = some (.ref (a 37))
  b__law_is_plain : Binds K (fd 37) ["_law_sketch"] []
  F__law_stands : Fun K "_law_stands" "_law_stands" _law_stands_s (a 38) (fd 38)
  m__law_stands : mg "_law_stands" = some (.ref (a 38))
  b__law_stands : Binds K (fd 38) ["_law_sketch", "_law_some"] []
  F__law_turned : Fun K "_law_turned" "_law_turned" _law_turned_s (a 39) (fd 39)
  m__law_turned : mg "_law_turned" = some (.ref (a 39))
  b__law_turned : Binds K (fd 39) ["_law_sketch"] []
  F__law_lists : Fun K "_law_lists" "_law_lists" _law_lists_s (a 40) (fd 40)
  m__law_lists : mg "_law_lists" = some (.ref (a 40))
  b__law_lists : Binds K (fd 40) ["_law_some"] []
  F__law_tupled : Fun K "_law_tupled" "_law_tupled" _law_tupled_s (a 41) (fd 41)
  m__law_tupled : mg "_law_tupled" = some (.ref (a 41))
  b__law_tupled : Binds K (fd 41) ["_law_sketch"] []
  F__law_listed : Fun K "_law_listed" "_law_listed" _law_listed_s (a 42) (fd 42)
  m__law_listed : mg "_law_listed" = some (.ref (a 42))
  b__law_listed : Binds K (fd 42) ["_law_sketch"] []
  F__law_spoil : Fun K "_law_spoil" "_law_spoil" _law_spoil_s (a 43) (fd 43)
  m__law_spoil : mg "_law_spoil" = some (.ref (a 43))
  b__law_spoil : Binds K (fd 43) ["_law_sketch"] []
  F__law_told_right : Fun K "_law_told_right" "_law_told_right" _law_told_right_s (a 44) (fd 44)
  m__law_told_right : mg "_law_told_right" = some (.ref (a 44))
  b__law_told_right : Binds K (fd 44) ["_law_plant", "_law_sketch"] []
  F__law_turned_right : Fun K "_law_turned_right" "_law_turned_right" _law_turned_right_s (a 45) (fd 45)
  m__law_turned_right : mg "_law_turned_right" = some (.ref (a 45))
  b__law_turned_right : Binds K (fd 45) ["_law_plant", "_law_sketch", "_law_tags"] []
  F__law_joined_right : Fun K "_law_joined_right" "_law_joined_right" _law_joined_right_s (a 46) (fd 46)
  m__law_joined_right : mg "_law_joined_right" = some (.ref (a 46))
  b__law_joined_right : Binds K (fd 46) ["_law_pot_here", "_law_plant", "_law_sketch"] []
  F__law_right : Fun K "_law_right" "_law_right" _law_right_s (a 47) (fd 47)
  m__law_right : mg "_law_right" = some (.ref (a 47))
  b__law_right : Binds K (fd 47) ["_law_pot_here"] []
  F_law : Fun K "law" "law" law_s (a 48) (fd 48)
  m_law : mg "law" = some (.ref (a 48))
  b_law : Binds K (fd 48) ["_law_script"] []
  m_HOUSES : mg "HOUSES" = some (.int 24 (tk 0))
  m_MOST_LEAVES : mg "MOST_LEAVES" = some (.int 24 (tk 1))
  m_MOST_DEPTH : mg "MOST_DEPTH" = some (.int 5 (tk 2))
  m_MOST_MIXED : mg "MOST_MIXED" = some (.int 8 (tk 3))
  z_isinstance : mg "isinstance" = none
  z_int : mg "int" = none
  z_bool : mg "bool" = none
  z_list : mg "list" = none
  z_tuple : mg "tuple" = none
  z_len : mg "len" = none
  z_str : mg "str" = none
  z_max : mg "max" = none
  z_all : mg "all" = none
  z_range : mg "range" = none
  z_staticmethod : mg "staticmethod" = none
  z_property : mg "property" = none
  z_abs : mg "abs" = none
  z_divmod : mg "divmod" = none
  z_min : mg "min" = none
  z_sorted : mg "sorted" = none
  z_set : mg "set" = none
  z_any : mg "any" = none
  z_repr : mg "repr" = none
  z_zip : mg "zip" = none
end K31

set_option maxRecDepth 100000
set_option maxHeartbeats 4000000
namespace K31
open PySem PySem.Spec PyProof.Rows L2 Kh
section
variable {P : Program} {w : World} {K : PySem.W.Frag} {mg : Str → Option Value} {base : Heap} {a : Nat → Addr} {fd : Nat → FuncData} {C : Addr} {tk : Nat → Tok}
abbrev spIsInteger (K : PySem.W.Frag) : Sp := spP K d1 (fun _ => True) fun d => .bool (isIntD d)
theorem ok_is_integer (T : Txt K mg a fd C tk) : FnOk P w K mg base CX0 1 (a 0) (fd 0) ["value"] (spIsInteger K) := by
  refine T.F_is_integer.ok sc_is_integer (fun vs H Q E h => spP_len (fun _ => rfl) h) (fun cdv A outer s H vs Q E hr h => ?_)
  obtain ⟨S, d, kn, hd, -, q⟩ := h
  obtain - | ⟨hd, ⟨⟩⟩ := hd
  rename_i v
  refine ⟨_, (pss_one (ps_ret (pe_and (pe_callB call_isi (by rfl) T.z_isinstance (by decide +kernel) (pa_cons (pv 0) (pa_cons (pe_bltn (v := .ty "int") (by rfl) T.z_int (by decide +kernel) rfl) pa_nil))) (pe_one (pe_not (pe_callB call_isi (by rfl) T.z_isinstance (by decide +kernel) (pa_cons (pv 0) (pa_cons (pe_bltn (v := .ty "bool") (by rfl) T.z_bool (by decide +kernel) rfl) pa_nil)))))))), ?_⟩
  have fin : ∀ b, isIntD d = b → Q (.bl b) H := fun b e => q _ _ (Same.refl H) (by subst e; exact .bl _)
  refine s_ret (t_andV (t_cb2 (t_var rfl (t_c (isi_d off_sub hd (kit_int d) (bl_if (fun c => ?_) (fun c => ?_)))))))
  · refine t_notV (t_cb2 (t_var rfl (t_c (isi_d off_sub hd (kit_bool d) ⟨_, rfl, fin _ ?_⟩))))
    cases d <;> first | rfl | cases c
  · exact fin _ (by cases d <;> first | rfl | cases c)
abbrev spIsCount (K : PySem.W.Frag) : Sp := spP K d1 (fun _ => True) fun d => .bool (isCountD d)
theorem ok_is_count (T : Txt K mg a fd C tk) : FnOk P w K mg base CX0 2 (a 1) (fd 1) ["value"] (spIsCount K) := by
  have G_is_integer : FnOk P w K mg base CX0 1 (a 0) (fd 0) ["value"] (spIsInteger K) := ok_is_integer T
  refine T.F_is_count.ok sc_is_count (fun vs H Q E h => spP_len (fun _ => rfl) h) (fun cdv A outer s H vs Q E hr h => ?_)
  obtain ⟨S, d, kn, hd, -, q⟩ := h
  obtain - | ⟨hd, ⟨⟩⟩ := hd
  rename_i v
  refine ⟨_, (pss_one (ps_ret (pe_and (pe_call G_is_integer (hr.mono (by omega)) (by rfl) T.m_is_integer T.F_is_integer.kp T.b_is_integer .nil pass0 (pa_cons (pv 0) pa_nil)) (pe_one (pe_cmpR op_ge (pv 0) pe_int (nomark _)))))), ?_⟩
  have fin : ∀ b H', isCountD d = b → Same H H' → Q (.bl b) H' := fun b H' e sm => q _ _ sm (by subst e; exact .bl _)
  refine s_ret (t_andV (t_call1 (t_var rfl (spP_bl off_sub d (.cons hd .nil) trivial rfl fun H' sm => bl_if (fun c => ?_) (fun c => fin _ _ (by cases d <;> first | rfl | cases c) sm)))))
  cases d with
  | int i =>
    cases hd
    exact t_op (t_var rfl (t_c ⟨_, _, rfl, rfl, fin _ _ rfl sm⟩))
  | _ => cases c
abbrev spIsList (K : PySem.W.Frag) : Sp := spP K d1 (fun _ => True) fun d => .bool (isListD d)
theorem ok_is_list (T : Txt K mg a fd C tk) : FnOk P w K mg base CX0 1 (a 2) (fd 2) ["value"] (spIsList K) := by
  refine T.F_is_list.ok sc_is_list (fun vs H Q E h => spP_len (fun _ => rfl) h) (fun cdv A outer s H vs Q E hr h => ?_)
  obtain ⟨S, d, kn, hd, -, q⟩ := h
  obtain - | ⟨hd, ⟨⟩⟩ := hd
  rename_i v
  refine ⟨_, (pss_one (ps_ret (pe_callB call_isiT (by rfl) T.z_isinstance (by decide +kernel) (pa_cons (pv 0) (pa_cons (pe_tup (pa_cons (pe_bltn (v := .ty "list") (by rfl) T.z_list (by decide +kernel) rfl) (pa_cons (pe_bltn (v := .ty "tuple") (by rfl) T.z_tuple (by decide +kernel) rfl) pa_nil))) pa_nil))))), ?_⟩
  refine ⟨v, rfl, by decide, fun p hp => ?_⟩
  exact isi2_d (off_sub.trans (same_new hp)) hd upd_same (kit_list d) (kit_tup d) (q _ _ (same_new hp) (.bl _))
abbrev spBelow (K : PySem.W.Frag) : Sp := spP K (fun x : PyData × Int => [x.1, .int x.2]) (fun _ => True) fun x => .bool (belowD x.2 x.1)
theorem ok_is_number_below (T : Txt K mg a fd C tk) : FnOk P w K mg base CX0 3 (a 3) (fd 3) ["value", "many"] (spBelow K) := by
  have G_is_count : FnOk P w K mg base CX0 2 (a 1) (fd 1) ["value"] (spIsCount K) := ok_is_count T
  refine T.F_is_number_below.ok sc_is_number_below (fun vs H Q E h => spP_len (fun _ => rfl) h) (fun cdv A outer s H vs Q E hr h => ?_)
  obtain ⟨S, ⟨d, m⟩, kn, hd, -, q⟩ := h
  obtain - | ⟨hd, - | ⟨⟨⟩, ⟨⟩⟩⟩ := hd
  rename_i v
  refine ⟨_, (pss_one (ps_ret (pe_and (pe_call G_is_count (hr.mono (by omega)) (by rfl) T.m_is_count T.F_is_count.kp T.b_is_count .nil pass0 (pa_cons (pv 0) pa_nil)) (pe_one (pe_cmpR op_lt (pv 0) (pv 1) (nomark _)))))), ?_⟩
  have fin : ∀ b H', belowD m d = b → Same H H' → Q (.bl b) H' := fun b H' e sm => q _ _ sm (by subst e; exact .bl _)
  refine s_ret (t_andV (t_call1 (t_var rfl (spP_bl off_sub d (.cons hd .nil) trivial rfl fun H' sm => bl_if (fun c => ?_) (fun c => fin _ _ ?_ sm)))))
  · cases d with
    | int i =>
      cases hd
      refine t_op (t_var rfl (t_var rfl ⟨_, _, rfl, rfl, fin _ _ ?_ sm⟩))
      show (decide (0 ≤ i) && decide (i < m)) = decide (i < m)
      rw [show decide (0 ≤ i) = true from c]; rfl
    | _ => cases c
  · cases d <;> first | rfl | skip
    rename_i i
    show (decide (0 ≤ i) && decide (i < m)) = false
    rw [show decide (0 ≤ i) = false from c]; rfl
end
end K31

set_option maxRecDepth 100000
set_option maxHeartbeats 4000000
namespace K31
open PySem PySem.Spec PyProof.Rows L2 Kh
section
variable {P : Program} {w : World} {K : PySem.W.Frag} {mg : Str → Option Value} {base : Heap} {a : Nat → Addr} {fd : Nat → FuncData} {C : Addr} {tk : Nat → Tok}
/-- a tree as it is handed in: right, with few leaves -/
def Sm (t : T) : Prop := Wf t ∧ (lv t).length ≤ 1000
theorem lv_pos : ∀ t, Wf t → 1 ≤ (lv t).length := T.ind (fun n _ => by rw [lv_leaf]; exact Nat.le_refl _) fun b k ps ih h => by
  obtain ⟨h1, h2, h3⟩ := (wf_gate b k ps).mp h
  cases ps with
  | nil => simp at h2; omega
  | cons p r =>
    rw [lv_gate, List.flatMap_cons, List.length_append]
    have := ih p List.mem_cons_self (h3 p List.mem_cons_self)
    omega
theorem lv_part {ps : List T} {p : T} (h : p ∈ ps) : (lv p).length ≤ (ps.flatMap lv).length := by
  induction ps with
  | nil => cases h
  | cons q r ih =>
    rw [List.flatMap_cons, List.length_append]
    rcases List.mem_cons.mp h with rfl | h
    · omega
    · have := ih h; omega
theorem len_lv : ∀ ps : List T, (∀ p ∈ ps, Wf p) → ps.length ≤ (ps.flatMap lv).length
  | [], _ => Nat.zero_le _
  | p :: r, h => by
    rw [List.flatMap_cons, List.length_append, List.length_cons]
    have h1 := lv_pos p (h p List.mem_cons_self)
    have h2 := len_lv r fun q hq => h q (List.mem_cons_of_mem _ hq)
    omega
theorem Sm.parts {b : Bool} {k : Nat} {ps : List T} (h : Sm (.gate b k ps)) : ∀ p ∈ ps, Sm p := fun p hp => by
  obtain ⟨h1, h2⟩ := h
  refine ⟨((wf_gate b k ps).mp h1).2.2 p hp, ?_⟩
  rw [lv_gate] at h2
  exact Nat.le_trans (lv_part hp) h2
theorem Sm.len {b : Bool} {k : Nat} {ps : List T} (h : Sm (.gate b k ps)) : ps.length ≤ 1000 := by
  obtain ⟨h1, h2⟩ := h
  rw [lv_gate] at h2
  exact Nat.le_trans (len_lv ps ((wf_gate b k ps).mp h1).2.2) h2
def t1 (t : T) : List PyData := [tD t]
def isGate : T → Bool | .leaf _ => false | .gate _ _ _ => true
abbrev spIsGate (K : PySem.W.Frag) : Sp := spP K t1 Wf fun t => .bool (isGate t)
theorem ok_is_gate (T : Txt K mg a fd C tk) : FnOk P w K mg base CX0 4 (a 4) (fd 4) ["value"] (spIsGate K) := by
  have G_is_list : FnOk P w K mg base CX0 1 (a 2) (fd 2) ["value"] (spIsList K) := ok_is_list T
  have G_is_count : FnOk P w K mg base CX0 2 (a 1) (fd 1) ["value"] (spIsCount K) := ok_is_count T
  refine T.F_is_gate.ok sc_is_gate (fun vs H Q E h => spP_len (fun _ => rfl) h) (fun cdv A outer s H vs Q E hr h => ?_)
  obtain ⟨S, t, kn, hd, wf, q⟩ := h
  obtain - | ⟨hd, ⟨⟩⟩ := hd
  rename_i v
  refine ⟨_, (pss_cons (ps_if (PW.pt (pw_or (pt_not (pt_val (pe_callB (k_isi (K := K)) (by rfl) T.z_isinstance (by decide +kernel) (pa_cons (pv 0) (pa_cons (pe_bltn (v := .ty "tuple") (by rfl) T.z_tuple (by decide +kernel) rfl) pa_nil))))) (pw_or1 (pt_cmpR op_ne (pe_callB (k_len (K := K)) (by rfl) T.z_len (by decide +kernel) (pa_cons (pv 0) pa_nil)) pe_int (nomark _)))))
        (pss_one (ps_ret pe_bl)) pss_nil)
      (pss_cons (ps_if (PW.pt (pw_or (pt_not (pt_val (pe_callB (k_isi (K := K)) (by rfl) T.z_isinstance (by decide +kernel) (pa_cons (pe_ix (k_ix (K := K)) (pv 0) pe_int (fun _ _ => rfl)) (pa_cons (pe_bltn (v := .ty "str") (by rfl) T.z_str (by decide +kernel) rfl) pa_nil))))) (pw_or1 (pt_cmpR op_ne (pe_ix (k_ix (K := K)) (pv 0) pe_int (fun _ _ => rfl)) pe_str (nomark _)))))
        (pss_one (ps_ret pe_bl)) pss_nil)
      (pss_one (ps_ret (pe_and (pe_call G_is_list (hr.mono (by omega)) (by rfl) T.m_is_list T.F_is_list.kp T.b_is_list .nil pass0 (pa_cons (pe_ix (k_ix (K := K)) (pv 0) pe_int (fun _ _ => rfl)) pa_nil)) (pe_and (pe_call G_is_count (hr.mono (by omega)) (by rfl) T.m_is_count T.F_is_count.kp T.b_is_count .nil pass0 (pa_cons (pe_ix (k_ix (K := K)) (pv 0) pe_int (fun _ _ => rfl)) pa_nil)) (pe_one (pe_chain op_le op_le pe_int (pe_ix (k_ix (K := K)) (pv 0) pe_int (fun _ _ => rfl)) (pe_callB (k_len (K := K)) (by rfl) T.z_len (by decide +kernel) (pa_cons (pe_ix (k_ix (K := K)) (pv 0) pe_int (fun _ _ => rfl)) pa_nil)))))))))), ?_⟩
  cases t with
  | leaf n =>
    rw [tD_leaf] at hd
    refine s_seq (s_if (b_or (b_not (b_val (t_cb2 (t_var rfl (t_c (isi_d off_sub hd (kit_tup _) ⟨_, rfl, ?_⟩))))))))
    exact ifT rfl (ifT rfl (s_ret (t_c (q _ _ (Same.refl H) (.bl _)))))
  | gate b k ps =>
    rw [tD_gate] at hd
    obtain ⟨k1, k2, _⟩ := (wf_gate b k ps).mp wf
    refine s_seq (s_if (b_or (b_not (b_val (t_cb2 (t_var rfl (t_c (isi_d off_sub hd (kit_tup _) ⟨_, rfl, ifF rfl ?_⟩))))))))
    refine b_test (t_op (t_cb1 (t_var rfl (len_d off_sub hd rfl (t_c ⟨rfl, _, rfl, ifF (by rfl) (s_next ?_)⟩)))))
    refine s_seq (s_if (b_or (b_not (b_val (t_cb2 (t_op (t_var rfl (t_c (ix_d (i := 0) off_sub hd rfl rfl fun u du => t_c (isi_d off_sub du (kit_str _) ⟨_, rfl, ifF rfl ?_⟩))))))))))
    refine b_test (t_op (t_op (t_var rfl (t_c (ix_d (i := 0) off_sub hd rfl rfl fun u du => ?_)))))
    cases du
    refine t_c ⟨rfl, _, rfl, ifF (by rfl) (s_next ?_)⟩
    refine s_ret (t_andV (t_call1 (t_op (t_var rfl (t_c (ix_d (i := 2) off_sub hd rfl rfl fun u du => spP_bl off_sub (sq b (ps.map tD)) (.cons du .nil) trivial rfl fun H1 s1 => ?_))))))
    refine bl_if (fun _ => ?_) (fun c => by cases b <;> cases c)
    refine t_andV (t_call1 (t_op (t_var rfl (t_c (ix_d (i := 1) (off_sub.trans s1) hd rfl rfl fun u du => spP_bl (off_sub.trans s1) (.int (k : Nat)) (.cons du .nil) trivial rfl fun H2 s2 => ?_)))))
    have s12 : Same H H2 := s1.trans s2
    refine bl_if (fun _ => ?_) (fun c => absurd c (by simp [isCountD]))
    refine t_c (t_op (t_var rfl (t_c (ix_d (i := 1) (off_sub.trans s12) hd rfl rfl fun u du => ?_))))
    cases du
    refine ⟨_, _, rfl, rfl, bl_if (fun _ => ?_) (fun c => absurd (show (1 : Int) ≤ (k : Nat) by omega) (of_decide_eq_false c))⟩
    refine t_cb1 (t_op (t_var rfl (t_c (ix_d (i := 2) (off_sub.trans s12) hd rfl rfl fun u du => len_d (off_sub.trans s12) du (items_sq b _) ⟨_, _, rfl, rfl, ?_⟩))))
    exact q _ H2 s12 (dp_bl (decide_eq_true (by simp; omega)))
end
end K31

set_option maxRecDepth 100000
set_option maxHeartbeats 4000000
namespace K31
open PySem PySem.Spec PyProof.Rows L2 Kh
section
variable {P : Program} {w : World} {K : PySem.W.Frag} {mg : Str → Option Value} {base : Heap} {a : Nat → Addr} {fd : Nat → FuncData} {C : Addr} {tk : Nat → Tok}
theorem at_ps {α : Type} {ps : List Kh.T} {g : Kh.T → α} {j : Nat} {d : α} (h : (ps.map g)[j]? = some d) : ∃ p, ps[j]? = some p ∧ p ∈ ps ∧ d = g p := by
  rw [List.getElem?_map] at h
  cases e : ps[j]? with
  | none => rw [e] at h; cases h
  | some p => rw [e] at h; exact ⟨p, rfl, List.mem_of_getElem? e, (Option.some.inj h).symm⟩
/-- the j-th part's own -/
def nth (ps : List Kh.T) (g : Kh.T → PyData) (j : Nat) : PyData := match ps[j]? with | some p => g p | none => .none
theorem nth_eq {ps : List Kh.T} {g : Kh.T → PyData} {j : Nat} {p : Kh.T} (h : ps[j]? = some p) : nth ps g j = g p := by unfold nth; rw [h]
theorem nth_map (ps : List Kh.T) (g h : Kh.T → PyData) : (List.range (ps.map h).length).map (nth ps g) = ps.map g := by
  rw [List.length_map]
  exact range_map fun i x e => nth_eq e
theorem dep_lt {d : Nat} {b : Bool} {k : Nat} {ps : List Kh.T} (h : dep (.gate b k ps) < d + 1) : ∀ p ∈ ps, dep p < d := fun p hp => by
  cases d with
  | zero => exact absurd (Nat.le_of_lt_succ h) (dep_gate0 b k ps)
  | succ d => exact Nat.lt_succ_of_le ((dep_gate b k ps).mp (Nat.le_of_lt_succ h) p hp)
theorem fn_none {k : Nat} {f : Addr} {fd : FuncData} {ps : List Str} {sp : Sp} (h : ∀ vs H Q E, sp vs H Q E → False) : FnOk P w K mg base CX0 k f fd ps sp :=
  ⟨fun vs H Q E q => (h vs H Q E q).elim, fun _ _ _ H _ _ vs Q E _ _ _ _ q => (h vs H Q E q).elim⟩
abbrev preT (d : Nat) (t : Kh.T) : Prop := Sm t ∧ dep t < d
theorem pre0 {f : Kh.T → PyData} {vs : List V} {H : Hp} {Q : VK} {E : XK} (h : spP K t1 (preT 0) f vs H Q E) : False := by
  obtain ⟨_, t, _, _, ⟨_, h⟩, _⟩ := h
  exact Nat.not_lt_zero _ h
abbrev spFirm (K : PySem.W.Frag) (d : Nat) : Sp := spP K t1 (preT d) fun t => tD (flg true t)
theorem ok_firm (T : Txt K mg a fd C tk) : ∀ d, FnOk P w K mg base CX0 (d + 1) (a 6) (fd 6) ["shape"] (spFirm K d)
  | 0 => fn_none fun _ _ _ _ => pre0
  | d + 1 => by
    have G_firm := ok_firm T d
    have G_is_integer : FnOk P w K mg base CX0 1 (a 0) (fd 0) ["value"] (spIsInteger K) := ok_is_integer T
    refine T.F_firm.ok sc_firm (fun vs H Q E h => spP_len (fun _ => rfl) h) (fun cdv A outer s H vs Q E hr h => ?_)
    obtain ⟨S, t, kn, hd, ⟨sm, dp⟩, q⟩ := h
    replace q : ∀ v H', Same H H' → Dp K (off S H') v (tD (flg true t)) → Q v H' := q
    obtain - | ⟨hd, ⟨⟩⟩ := hd
    rename_i v
    refine ⟨_, (pss_cons (ps_if (pt_val (pe_call G_is_integer (hr.mono (by omega)) (by rfl) T.m_is_integer T.F_is_integer.kp T.b_is_integer .nil pass0 (pa_cons (pv 0) pa_nil)))
        (pss_one (ps_ret (pv 0))) pss_nil)
      (pss_one (ps_ret (pe_tup (pa_cons pe_str (pa_cons (pe_ix (k_ix (K := K)) (pv 0) pe_int (fun _ _ => rfl)) (pa_cons (pe_callTy (k_tup (K := K)) (by rfl) T.z_tuple (by decide +kernel) (pa_cons (pe_lc (own := [("part", 1)]) (g := gName 1) (tt := tYes) rfl sc_firm.nd (k_pi (K := K) (pe_ix (k_ix (K := K)) (pv 0) pe_int (fun _ _ => rfl))) (blkOk_by (own := [("part", 1)]) (N := firm_N) (sc := defScope firm_s) (by decide +kernel)) (fun _ _ _ _ _ => (pg_name (i := 1) sc_firm.nd rfl (Or.inl rfl))) (fun _ _ _ _ _ => pts_nil) (fun _ _ _ _ _ => (pe_call G_firm (hr.mono (by omega)) (by rfl) T.m_firm T.F_firm.kp T.b_firm .nil pass0 (pa_cons (pv 1) pa_nil)))) pa_nil)) pa_nil))))))), ?_⟩
    cases t with
    | leaf n =>
      rw [flg_leaf] at q
      have hd' := hd
      rw [tD_leaf] at hd
      refine s_seq (s_if (b_val (t_call1 (t_var rfl (spP_bl off_sub _ (.cons hd .nil) trivial rfl fun H1 s1 => ⟨_, rfl, ifT rfl ?_⟩)))))
      exact s_ret (t_var rfl (q _ H1 s1 (dp_same (off_same s1) _ _ hd')))
    | gate b k ps =>
      rw [flg_gate, tD_gate] at q
      rw [tD_gate] at hd
      refine s_seq (s_if (b_val (t_call1 (t_var rfl (spP_bl off_sub _ (.cons hd .nil) trivial rfl fun H1 s1 => ⟨_, rfl, ifF rfl (s_next ?_)⟩)))))
      have kn1 := kn.same s1
      have hd1 := dp_same (off_same s1) _ _ hd
      refine s_ret (t_tup (a_cons (t_c (a_cons (t_op (t_var rfl (t_c (ix_d (i := 1) off_sub hd1 rfl rfl fun u du => ?_))))))))
      cases du
      refine a_cons (t_cb1 (lc_seq (b := b) (ds := ps.map tD) (nth ps fun p => tD (flg true p)) kn1 (fun Q q => t_op (t_var rfl (t_c (ix_d (i := 2) off_sub hd1 rfl rfl fun u du => q u _ (Same.refl _) du)))) (by rw [List.length_map]; exact Nat.le_trans sm.len (by decide)) (fun _ => rfl) (fun j x d H2 S' dj s2 kn2 dx hS hoff Q q => ?_) fun D H2 ys hD s2 hd2 h2 => ?_))
      · obtain ⟨p, pj, pm, rfl⟩ := at_ps dj
        refine t_call1 (t_var rfl ⟨S', p, kn2, .cons dx .nil, ⟨sm.parts p pm, dep_lt dp p pm⟩, fun v H' s' h => q v H' s' ?_⟩)
        rw [nth_eq pj]; exact h
      · rw [nth_map] at h2
        refine tup_d (kn1.same s2) h2 rfl fun u H3 s3 h3 => ⟨le3, fun p hp => ?_⟩
        refine q _ _ (((s1.trans s2).trans s3).trans (same_new hp)) ?_
        rw [List.map_map]
        exact dp_newT ((kn1.same s2).same s3) hp (.cons (.str _) (.cons (.int _) (.cons h3 .nil)))
end
end K31

set_option maxRecDepth 100000
set_option maxHeartbeats 4000000
namespace K31
open PySem PySem.Spec PyProof.Rows L2 Kh
section
variable {P : Program} {w : World} {K : PySem.W.Frag} {mg : Str → Option Value} {base : Heap} {a : Nat → Addr} {fd : Nat → FuncData} {C : Addr} {tk : Nat → Tok}
theorem len_ok {ps : List Kh.T} {g : Kh.T → PyData} {b : Bool} {k : Nat} (sm : Sm (.gate b k ps)) : (ps.map g).length ≤ 100000 := by rw [List.length_map]; exact Nat.le_trans sm.len (by decide)
abbrev spListed (K : PySem.W.Frag) (d : Nat) : Sp := spP K t1 (preT d) fun t => tD (flg false t)
theorem ok_listed (T : Txt K mg a fd C tk) : ∀ d, FnOk P w K mg base CX0 (d + 1) (a 7) (fd 7) ["shape"] (spListed K d)
  | 0 => fn_none fun _ _ _ _ => pre0
  | d + 1 => by
    have G_listed := ok_listed T d
    have G_is_integer : FnOk P w K mg base CX0 1 (a 0) (fd 0) ["value"] (spIsInteger K) := ok_is_integer T
    refine T.F_listed.ok sc_listed (fun vs H Q E h => spP_len (fun _ => rfl) h) (fun cdv A outer s H vs Q E hr h => ?_)
    obtain ⟨S, t, kn, hd, ⟨sm, dp⟩, q⟩ := h
    replace q : ∀ v H', Same H H' → Dp K (off S H') v (tD (flg false t)) → Q v H' := q
    obtain - | ⟨hd, ⟨⟩⟩ := hd
    rename_i v
    refine ⟨_, (pss_cons (ps_if (pt_val (pe_call G_is_integer (hr.mono (by omega)) (by rfl) T.m_is_integer T.F_is_integer.kp T.b_is_integer .nil pass0 (pa_cons (pv 0) pa_nil)))
        (pss_one (ps_ret (pv 0))) pss_nil)
      (pss_one (ps_ret (pe_tup (pa_cons pe_str (pa_cons (pe_ix (k_ix (K := K)) (pv 0) pe_int (fun _ _ => rfl)) (pa_cons (pe_lc (own := [("part", 1)]) (g := gName 1) (tt := tYes) rfl sc_listed.nd (k_pi (K := K) (pe_ix (k_ix (K := K)) (pv 0) pe_int (fun _ _ => rfl))) (blkOk_by (own := [("part", 1)]) (N := listed_N) (sc := defScope listed_s) (by decide +kernel)) (fun _ _ _ _ _ => (pg_name (i := 1) sc_listed.nd rfl (Or.inl rfl))) (fun _ _ _ _ _ => pts_nil) (fun _ _ _ _ _ => (pe_call G_listed (hr.mono (by omega)) (by rfl) T.m_listed T.F_listed.kp T.b_listed .nil pass0 (pa_cons (pv 1) pa_nil)))) pa_nil))))))), ?_⟩
    cases t with
    | leaf n =>
      rw [flg_leaf] at q
      have hd' := hd
      rw [tD_leaf] at hd
      refine s_seq (s_if (b_val (t_call1 (t_var rfl (spP_bl off_sub _ (.cons hd .nil) trivial rfl fun H1 s1 => ⟨_, rfl, ifT rfl ?_⟩)))))
      exact s_ret (t_var rfl (q _ H1 s1 (dp_same (off_same s1) _ _ hd')))
    | gate b k ps =>
      rw [flg_gate, tD_gate] at q
      rw [tD_gate] at hd
      refine s_seq (s_if (b_val (t_call1 (t_var rfl (spP_bl off_sub _ (.cons hd .nil) trivial rfl fun H1 s1 => ⟨_, rfl, ifF rfl (s_next ?_)⟩)))))
      have kn1 := kn.same s1
      have hd1 := dp_same (off_same s1) _ _ hd
      refine s_ret (t_tup (a_cons (t_c (a_cons (t_op (t_var rfl (t_c (ix_d (i := 1) off_sub hd1 rfl rfl fun u du => ?_))))))))
      cases du
      refine a_cons (lc_seq (b := b) (ds := ps.map tD) (nth ps fun p => tD (flg false p)) kn1 (fun Q q => t_op (t_var rfl (t_c (ix_d (i := 2) off_sub hd1 rfl rfl fun u du => q u _ (Same.refl _) du)))) (len_ok sm) (fun _ => rfl) (fun j x d H2 S' dj s2 kn2 dx hS hoff Q q => ?_) fun D H2 ys hD s2 hd2 h2 => ?_)
      · obtain ⟨p, pj, pm, rfl⟩ := at_ps dj
        refine t_call1 (t_var rfl ⟨S', p, kn2, .cons dx .nil, ⟨sm.parts p pm, dep_lt dp p pm⟩, fun v H' s' h => q v H' s' ?_⟩)
        rw [nth_eq pj]; exact h
      · rw [nth_map] at h2
        refine ⟨le3, fun p hp => q _ _ ((s1.trans s2).trans (same_new hp)) ?_⟩
        rw [List.map_map]
        exact dp_newT (kn1.same s2) hp (.cons (.str _) (.cons (.int _) (.cons h2 .nil)))
abbrev spContrary (K : PySem.W.Frag) (d : Nat) : Sp := spP K t1 (preT d) fun t => tD (con t)
theorem ok_contrary (T : Txt K mg a fd C tk) : ∀ d, FnOk P w K mg base CX0 (d + 1) (a 10) (fd 10) ["shape"] (spContrary K d)
  | 0 => fn_none fun _ _ _ _ => pre0
  | d + 1 => by
    have G_contrary := ok_contrary T d
    have G_is_integer : FnOk P w K mg base CX0 1 (a 0) (fd 0) ["value"] (spIsInteger K) := ok_is_integer T
    refine T.F_contrary.ok sc_contrary (fun vs H Q E h => spP_len (fun _ => rfl) h) (fun cdv A outer s H vs Q E hr h => ?_)
    obtain ⟨S, t, kn, hd, ⟨sm, dp⟩, q⟩ := h
    replace q : ∀ v H', Same H H' → Dp K (off S H') v (tD (con t)) → Q v H' := q
    obtain - | ⟨hd, ⟨⟩⟩ := hd
    rename_i v
    refine ⟨_, (pss_cons (ps_if (pt_val (pe_call G_is_integer (hr.mono (by omega)) (by rfl) T.m_is_integer T.F_is_integer.kp T.b_is_integer .nil pass0 (pa_cons (pv 0) pa_nil)))
        (pss_one (ps_ret (pv 0))) pss_nil)
      (pss_cons (ps_setLc (i := 1) (own := [("part", 2)]) (g := gName 2) (tt := tYes) rfl sc_contrary.nd rfl rfl (sw_true rfl rfl rfl (by decide +kernel)) (k_pi (K := K) (pe_ix (k_ix (K := K)) (pv 0) pe_int (fun _ _ => rfl))) (blkOk_by (own := [("part", 2)]) (N := contrary_N) (sc := defScope contrary_s) (by decide +kernel)) (fun _ _ _ _ _ => (pg_name (i := 2) sc_contrary.nd rfl (Or.inl rfl))) (fun _ _ _ _ _ => pts_nil) (fun _ _ _ _ _ => (pe_call G_contrary (hr.mono (by omega)) (by rfl) T.m_contrary T.F_contrary.kp T.b_contrary .nil pass0 (pa_cons (pv 2) pa_nil))))
      (pss_one (ps_ret (pe_tup (pa_cons pe_str (pa_cons (pe_op op_sub (pe_op op_add (pe_callB (k_len (K := K)) (by rfl) T.z_len (by decide +kernel) (pa_cons (pv 1) pa_nil)) pe_int) (pe_ix (k_ix (K := K)) (pv 0) pe_int (fun _ _ => rfl))) (pa_cons (pv 1) pa_nil)))))))), ?_⟩
    cases t with
    | leaf n =>
      rw [con_leaf] at q
      have hd' := hd
      rw [tD_leaf] at hd
      refine s_seq (s_if (b_val (t_call1 (t_var rfl (spP_bl off_sub _ (.cons hd .nil) trivial rfl fun H1 s1 => ⟨_, rfl, ifT rfl ?_⟩)))))
      exact s_ret (t_var rfl (q _ H1 s1 (dp_same (off_same s1) _ _ hd')))
    | gate b k ps =>
      obtain ⟨k1, k2, _⟩ := (wf_gate b k ps).mp sm.1
      rw [con_gate, tD_gate] at q
      rw [tD_gate] at hd
      refine s_seq (s_if (b_val (t_call1 (t_var rfl (spP_bl off_sub _ (.cons hd .nil) trivial rfl fun H1 s1 => ⟨_, rfl, ifF rfl (s_next ?_)⟩)))))
      have kn1 := kn.same s1
      have hd1 := dp_same (off_same s1) _ _ hd
      refine s_seq (s_set (lc_seq (b := b) (ds := ps.map tD) (nth ps fun p => tD (con p)) kn1 (fun Q q => t_op (t_var rfl (t_c (ix_d (i := 2) off_sub hd1 rfl rfl fun u du => q u _ (Same.refl _) du)))) (len_ok sm) (fun _ => rfl) (fun j x d H2 S' dj s2 kn2 dx hS hoff Q q => ?_) fun D H2 ys hD s2 hd2 h2 => ?_))
      · obtain ⟨p, pj, pm, rfl⟩ := at_ps dj
        refine t_call1 (t_var rfl ⟨S', p, kn2, .cons dx .nil, ⟨sm.parts p pm, dep_lt dp p pm⟩, fun v H' s' h => q v H' s' ?_⟩)
        rw [nth_eq pj]; exact h
      · rw [nth_map] at h2
        refine s_ret (t_tup (a_cons (t_c (a_cons (t_op (t_op (t_cb1 (t_var rfl (len_d off_sub h2 rfl ?_)))))))))
        refine t_c ⟨_, _, rfl, rfl, t_op (t_var rfl (t_c (ix_d (i := 1) (off_sub.trans s2) hd1 rfl rfl fun u du => ?_)))⟩
        cases du
        refine ⟨_, _, rfl, rfl, ?_⟩
        refine a_cons (t_var rfl ⟨le3, fun p hp => q _ _ ((s1.trans s2).trans (same_new hp)) ?_⟩)
        rw [List.map_map]
        refine dp_newT (kn1.same s2) hp (.cons (.str _) (.cons (dp_int ?_) (.cons h2 .nil)))
        rw [List.length_map]; omega
end
end K31

set_option maxRecDepth 100000
set_option maxHeartbeats 4000000
namespace K31
open PySem PySem.Spec PyProof.Rows L2 Kh
section
variable {P : Program} {w : World} {K : PySem.W.Frag} {mg : Str → Option Value} {base : Heap} {a : Nat → Addr} {fd : Nat → FuncData} {C : Addr} {tk : Nat → Tok}
/-- whole numbers told -/
def nD (n : Nat) : PyData := .int (n : Nat)
def nL (ns : List Nat) : PyData := .list (ns.map nD)
/-- the j-th part's houses -/
def nthL (ps : List Kh.T) (j : Nat) : List PyData := match ps[j]? with | some p => (lv p).map nD | none => []
theorem nthL_eq {ps : List Kh.T} {j : Nat} {p : Kh.T} (h : ps[j]? = some p) : nthL ps j = (lv p).map nD := by unfold nthL; rw [h]
theorem nthL_take (ps : List Kh.T) : ∀ n, n ≤ ps.length → (List.range n).flatMap (nthL ps) = ((ps.take n).flatMap lv).map nD
  | 0, _ => by simp
  | n + 1, h => by
    have e : ps[n]? = some ps[n] := List.getElem?_eq_getElem (by omega)
    rw [flat_take, nthL_take ps n (by omega), List.take_add_one, e, nthL_eq e, List.flatMap_append, List.map_append]
    simp
theorem flat_take_le (ps : List Kh.T) (n : Nat) : ((ps.take n).flatMap lv).length ≤ (ps.flatMap lv).length := by
  have e : ps.flatMap lv = (ps.take n).flatMap lv ++ (ps.drop n).flatMap lv := by rw [← List.flatMap_append, List.take_append_drop]
  rw [e, List.length_append]; omega
abbrev spLeaves (K : PySem.W.Frag) (d : Nat) : Sp := spP K t1 (preT d) fun t => nL (lv t)
theorem ok_leaves (T : Txt K mg a fd C tk) : ∀ d, FnOk P w K mg base CX0 (d + 1) (a 8) (fd 8) ["shape"] (spLeaves K d)
  | 0 => fn_none fun _ _ _ _ => pre0
  | d + 1 => by
    have G_leaves := ok_leaves T d
    have G_is_integer : FnOk P w K mg base CX0 1 (a 0) (fd 0) ["value"] (spIsInteger K) := ok_is_integer T
    refine T.F_leaves.ok sc_leaves (fun vs H Q E h => spP_len (fun _ => rfl) h) (fun cdv A outer s H vs Q E hr h => ?_)
    obtain ⟨S, t, kn, hd, ⟨sm, dp⟩, q⟩ := h
    replace q : ∀ v H', Same H H' → Dp K (off S H') v (.list ((lv t).map nD)) → Q v H' := q
    obtain - | ⟨hd, ⟨⟩⟩ := hd
    rename_i v
    refine ⟨_, (pss_cons (ps_if (pt_val (pe_call G_is_integer (hr.mono (by omega)) (by rfl) T.m_is_integer T.F_is_integer.kp T.b_is_integer .nil pass0 (pa_cons (pv 0) pa_nil)))
        (pss_one (ps_ret (pe_lst (pa_cons (pv 0) pa_nil)))) pss_nil)
      (pss_one (ps_ret (pe_lc2 (own := [("part", 1), ("house", 2)]) (vs1 := [2]) (g := gName 1) (g1 := gName 2) (tt := tYes) (tt1 := tYes) rfl sc_leaves.nd (k_pi (K := K) (pe_ix (k_ix (K := K)) (pv 0) pe_int (fun _ _ => rfl))) (blkOk_by (own := [("part", 1), ("house", 2)]) (N := leaves_N) (sc := defScope leaves_s) (by decide +kernel)) (by decide) (fun _ _ _ _ _ => (pg_name (i := 1) sc_leaves.nd rfl (Or.inl rfl))) (fun _ _ _ _ _ => pts_nil) (fun _ _ _ _ _ => (k_pi (K := K) (pe_call G_leaves (hr.mono (by omega)) (by rfl) T.m_leaves T.F_leaves.kp T.b_leaves .nil pass0 (pa_cons (pv 1) pa_nil)))) (fun _ _ _ _ _ => (pg_name (i := 2) sc_leaves.nd rfl (Or.inl rfl))) (fun _ _ _ _ _ => pts_nil) (fun _ _ _ _ _ => (pv 2)))))), ?_⟩
    cases t with
    | leaf n =>
      rw [lv_leaf] at q
      have hd' := hd
      rw [tD_leaf] at hd
      refine s_seq (s_if (b_val (t_call1 (t_var rfl (spP_bl off_sub _ (.cons hd .nil) trivial rfl fun H1 s1 => ⟨_, rfl, ifT rfl ?_⟩)))))
      exact s_ret (t_lst (a_cons (t_var rfl ⟨le1, fun p hp => q _ _ (s1.trans (same_new hp)) (dp_newL (kn.same s1) hp (.cons (dp_same (off_same s1) _ _ hd) .nil))⟩)))
    | gate b k ps =>
      rw [lv_gate] at q
      rw [tD_gate] at hd
      refine s_seq (s_if (b_val (t_call1 (t_var rfl (spP_bl off_sub _ (.cons hd .nil) trivial rfl fun H1 s1 => ⟨_, rfl, ifF rfl (s_next ?_)⟩)))))
      have kn1 := kn.same s1
      have hd1 := dp_same (off_same s1) _ _ hd
      refine s_ret (lc2_seq (b := b) (ds := ps.map tD) (nthL ps) kn1 (fun Q q => t_op (t_var rfl (t_c (ix_d (i := 2) off_sub hd1 rfl rfl fun u du => q u _ (Same.refl _) du)))) (fun n hn => ?_) (fun _ => rfl) (fun _ _ => rfl) (fun _ _ => rfl) (fun j x d H2 S' dj s2 kn2 dx hS Q q => ?_) fun D H2 ys hD s2 hd2 h2 => ?_)
      · rw [List.length_map] at hn
        rw [nthL_take ps n hn, List.length_map]
        have h1 := flat_take_le ps n
        have h2 := sm.2
        rw [lv_gate] at h2
        omega
      · obtain ⟨p, pj, pm, rfl⟩ := at_ps dj
        refine t_call1 (t_var rfl ⟨S', p, kn2, .cons dx .nil, ⟨sm.parts p pm, dep_lt dp p pm⟩, fun v H' s' h => q v H' s' ?_⟩)
        rw [nthL_eq pj]; exact h
      · rw [List.length_map, nthL_take ps _ (Nat.le_refl _), List.take_length] at h2
        exact q _ _ (s1.trans s2) h2
theorem deps_max : ∀ {ps : List Kh.T} {m : Int}, m ∈ ps.map (fun p => ((dep p : Nat) : Int)) → (∀ y, y ∈ ps.map (fun p => ((dep p : Nat) : Int)) → y ≤ m) → m = ((deps ps : Nat) : Int) := by
  intro ps m h1 h2
  obtain ⟨p, hp, rfl⟩ := List.mem_map.mp h1
  have a1 : deps ps ≤ dep p := (deps_le ps).mpr fun q hq => by
    have := h2 _ (List.mem_map.mpr ⟨q, hq, rfl⟩)
    omega
  have a2 : dep p ≤ deps ps := (deps_le ps).mp (Nat.le_refl _) p hp
  omega
abbrev spDepth (K : PySem.W.Frag) (d : Nat) : Sp := spP K t1 (preT d) fun t => nD (dep t)
theorem ok_depth (T : Txt K mg a fd C tk) : ∀ d, FnOk P w K mg base CX0 (d + 1) (a 9) (fd 9) ["shape"] (spDepth K d)
  | 0 => fn_none fun _ _ _ _ => pre0
  | d + 1 => by
    have G_depth := ok_depth T d
    have G_is_integer : FnOk P w K mg base CX0 1 (a 0) (fd 0) ["value"] (spIsInteger K) := ok_is_integer T
    refine T.F_depth.ok sc_depth (fun vs H Q E h => spP_len (fun _ => rfl) h) (fun cdv A outer s H vs Q E hr h => ?_)
    obtain ⟨S, t, kn, hd, ⟨sm, dp⟩, q⟩ := h
    replace q : ∀ v H', Same H H' → Dp K (off S H') v (.int ((dep t : Nat) : Int)) → Q v H' := q
    obtain - | ⟨hd, ⟨⟩⟩ := hd
    rename_i v
    refine ⟨_, (pss_cons (ps_if (pt_val (pe_call G_is_integer (hr.mono (by omega)) (by rfl) T.m_is_integer T.F_is_integer.kp T.b_is_integer .nil pass0 (pa_cons (pv 0) pa_nil)))
        (pss_one (ps_ret pe_int)) pss_nil)
      (pss_one (ps_ret (pe_op op_add pe_int (pe_callB (k_max (K := K) rfl) (by rfl) T.z_max (by decide +kernel) (pa_cons (pe_lc (own := [("part", 1)]) (g := gName 1) (tt := tYes) rfl sc_depth.nd (k_pi (K := K) (pe_ix (k_ix (K := K)) (pv 0) pe_int (fun _ _ => rfl))) (blkOk_by (own := [("part", 1)]) (N := depth_N) (sc := defScope depth_s) (by decide +kernel)) (fun _ _ _ _ _ => (pg_name (i := 1) sc_depth.nd rfl (Or.inl rfl))) (fun _ _ _ _ _ => pts_nil) (fun _ _ _ _ _ => (pe_call G_depth (hr.mono (by omega)) (by rfl) T.m_depth T.F_depth.kp T.b_depth .nil pass0 (pa_cons (pv 1) pa_nil)))) pa_nil)))))), ?_⟩
    cases t with
    | leaf n =>
      rw [tD_leaf] at hd
      refine s_seq (s_if (b_val (t_call1 (t_var rfl (spP_bl off_sub _ (.cons hd .nil) trivial rfl fun H1 s1 => ⟨_, rfl, ifT rfl ?_⟩)))))
      exact s_ret (t_c (q _ _ s1 (dp_int (by rw [dep]; rfl))))
    | gate b k ps =>
      obtain ⟨k1, k2, _⟩ := (wf_gate b k ps).mp sm.1
      rw [dep] at q
      rw [tD_gate] at hd
      refine s_seq (s_if (b_val (t_call1 (t_var rfl (spP_bl off_sub _ (.cons hd .nil) trivial rfl fun H1 s1 => ⟨_, rfl, ifF rfl (s_next ?_)⟩)))))
      have kn1 := kn.same s1
      have hd1 := dp_same (off_same s1) _ _ hd
      refine s_ret (t_op (t_c (t_cb1 (lc_seq (b := b) (ds := ps.map tD) (nth ps fun p => nD (dep p)) kn1 (fun Q q => t_op (t_var rfl (t_c (ix_d (i := 2) off_sub hd1 rfl rfl fun u du => q u _ (Same.refl _) du)))) (len_ok sm) (fun _ => rfl) (fun j x d H2 S' dj s2 kn2 dx hS hoff Q q => ?_) fun D H2 ys hD s2 hd2 h2 => ?_))))
      · obtain ⟨p, pj, pm, rfl⟩ := at_ps dj
        refine t_call1 (t_var rfl ⟨S', p, kn2, .cons dx .nil, ⟨sm.parts p pm, dep_lt dp p pm⟩, fun v H' s' h => q v H' s' ?_⟩)
        rw [nth_eq pj]; exact h
      · rw [nth_map] at h2
        refine max_d (ns := ps.map fun p => ((dep p : Nat) : Int)) off_sub (by rw [List.map_map]; exact h2) (by rw [List.length_map]; omega) fun m m1 m2 => ⟨_, _, rfl, rfl, q _ _ (s1.trans s2) (dp_int ?_)⟩
        rw [deps_max m1 m2]; omega
/-- a tree, houses told as a list or a tuple -/
def tS (x : Kh.T × Bool × List Nat) : List PyData := [tD x.1, sq x.2.1 (x.2.2.map nD)]
theorem mem_ints {n : Nat} {s : List Nat} : ((n : Nat) : Int) ∈ s.map (fun m : Nat => ((m : Nat) : Int)) ↔ n ∈ s := by
  constructor
  · intro h
    obtain ⟨m, hm, e⟩ := List.mem_map.mp h
    have : m = n := by omega
    exact this ▸ hm
  · intro h; exact List.mem_map.mpr ⟨n, h, rfl⟩
abbrev spStandsIn (K : PySem.W.Frag) (d : Nat) : Sp := spP K tS (fun x => preT d x.1) fun x => .bool (st x.2.2 x.1)
theorem ok_stands_in (T : Txt K mg a fd C tk) : ∀ d, FnOk P w K mg base CX0 (d + 1) (a 11) (fd 11) ["shape", "houses"] (spStandsIn K d)
  | 0 => fn_none fun _ _ _ _ h => by
    obtain ⟨_, x, _, _, ⟨_, h⟩, _⟩ := h
    exact Nat.not_lt_zero _ h
  | d + 1 => by
    have G_stands_in := ok_stands_in T d
    have G_is_integer : FnOk P w K mg base CX0 1 (a 0) (fd 0) ["value"] (spIsInteger K) := ok_is_integer T
    refine T.F_stands_in.ok sc_stands_in (fun vs H Q E h => spP_len (fun _ => rfl) h) (fun cdv A outer s H vs Q E hr h => ?_)
    obtain ⟨S, ⟨t, c, ss⟩, kn, hd, ⟨sm, dp⟩, q⟩ := h
    replace q : ∀ v H', Same H H' → Dp K (off S H') v (.bool (st ss t)) → Q v H' := q
    replace sm : Sm t := sm
    replace dp : dep t < d + 1 := dp
    obtain - | ⟨hd, - | ⟨hs, ⟨⟩⟩⟩ := hd
    rename_i v vh
    replace hd : Dp K (off S H) v (tD t) := hd
    replace hs : Dp K (off S H) vh (sq c (ss.map nD)) := hs
    refine ⟨_, (pss_cons (ps_if (pt_val (pe_call G_is_integer (hr.mono (by omega)) (by rfl) T.m_is_integer T.F_is_integer.kp T.b_is_integer .nil pass0 (pa_cons (pv 0) pa_nil)))
        (pss_one (ps_ret (pe_cmpR (k_in (K := K)) (pv 0) (pv 1) (by rfl)))) pss_nil)
      (pss_one (ps_ret (pe_cmpR op_ge (pe_callB (k_len (K := K)) (by rfl) T.z_len (by decide +kernel) (pa_cons (pe_lc (own := [("part", 2)]) (g := gName 2) (tt := _) rfl sc_stands_in.nd (k_pi (K := K) (pe_ix (k_ix (K := K)) (pv 0) pe_int (fun _ _ => rfl))) (blkOk_by (own := [("part", 2)]) (N := stands_in_N) (sc := defScope stands_in_s) (by decide +kernel)) (fun _ _ _ _ _ => (pg_name (i := 2) sc_stands_in.nd rfl (Or.inl rfl))) (fun _ _ _ _ _ => (pts_one (pt_val (pe_call G_stands_in (hr.mono (by omega)) (by rfl) T.m_stands_in T.F_stands_in.kp T.b_stands_in .nil pass0 (pa_cons (pv 2) (pa_cons (pv 1) pa_nil)))))) (fun _ _ _ _ _ => (pv 2))) pa_nil)) (pe_ix (k_ix (K := K)) (pv 0) pe_int (fun _ _ => rfl)) (nomark _))))), ?_⟩
    cases t with
    | leaf n =>
      rw [tD_leaf] at hd
      rw [st_leaf] at q
      refine s_seq (s_if (b_val (t_call1 (t_var rfl (spP_bl off_sub _ (.cons hd .nil) trivial rfl fun H1 s1 => ⟨_, rfl, ifT rfl ?_⟩)))))
      cases hd
      refine s_ret (t_op (t_var rfl (t_var rfl (in_d (ns := ss.map fun m : Nat => ((m : Nat) : Int)) (off_sub.trans s1) hs (by rw [items_sq, List.map_map]; rfl) (q _ _ s1 (dp_bl ?_))))))
      exact decide_eq_decide.mpr mem_ints
    | gate b k ps =>
      rw [tD_gate] at hd
      rw [st_gate] at q
      refine s_seq (s_if (b_val (t_call1 (t_var rfl (spP_bl off_sub _ (.cons hd .nil) trivial rfl fun H1 s1 => ⟨_, rfl, ifF rfl (s_next ?_)⟩)))))
      have kn1 := kn.same s1
      have hd1 := dp_same (off_same s1) _ _ hd
      have hs1 := dp_same (off_same s1) _ _ hs
      refine s_ret (t_op (t_cb1 (lc_seqF (b := b) (ds := ps.map tD) (fun j => (ps[j]?).any (st ss)) (nth ps tD) kn1 (fun Q q => t_op (t_var rfl (t_c (ix_d (i := 2) off_sub hd1 rfl rfl fun u du => q u _ (Same.refl _) du)))) (len_ok sm) (fun _ => rfl) (fun j x d H2 S' dj s2 kn2 dx hS hoff Q q => ?_) (fun j x d H2 S' dj pj s2 kn2 dx hS hoff Q q => ?_) fun D H2 ys hD s2 hd2 h2 => ?_)))
      · obtain ⟨p, pj, pm, rfl⟩ := at_ps dj
        refine b_val (t_call2 (t_var rfl (t_var rfl ⟨S', (p, c, ss), kn2, .cons dx (.cons (dp_same hoff _ _ hs1) .nil), ⟨sm.parts p pm, dep_lt dp p pm⟩, fun v H' s' h => ?_⟩)))
        replace h : Dp K (off S' H') v (.bool (st ss p)) := h
        cases h
        refine ⟨_, rfl, ?_⟩
        have e : (ps[j]?).any (st ss) = st ss p := by rw [pj]; rfl
        rw [← e]; exact q H' s'
      · obtain ⟨p, pj', pm, rfl⟩ := at_ps dj
        refine t_var rfl (q _ _ (Same.refl _) ?_)
        rw [nth_eq pj']; exact dx
      · rw [List.length_map, range_filter (p := st ss) (g := tD) fun i x e => ⟨by rw [e]; rfl, nth_eq e⟩] at h2
        refine len_d off_sub h2 rfl (t_op (t_var rfl (t_c (ix_d (i := 1) (off_sub.trans s2) hd1 rfl rfl fun u du => ?_))))
        cases du
        refine ⟨_, _, rfl, rfl, q _ _ (s1.trans s2) (dp_bl ?_)⟩
        rw [List.length_map]
        exact decide_eq_decide.mpr (by omega)
end
end K31

set_option maxRecDepth 100000
set_option maxHeartbeats 4000000
namespace K31
open PySem PySem.Spec PyProof.Rows L2 Kh
section
variable {P : Program} {w : World} {K : PySem.W.Frag} {mg : Str → Option Value} {base : Heap} {a : Nat → Addr} {fd : Nat → FuncData} {C : Addr} {tk : Nat → Tok}
theorem dpa_snoc {K : PySem.W.Frag} {H : Hp} {d : PyData} : ∀ {ds : List PyData} {vs : List V}, DpAll K H vs (ds ++ [d]) → ∃ vs' v, vs = vs' ++ [v] ∧ DpAll K H vs' ds ∧ Dp K H v d
  | [], _, .cons h .nil => ⟨[], _, rfl, .nil, h⟩
  | e :: ds, _, .cons h t => by
    obtain ⟨vs', v, rfl, h1, h2⟩ := dpa_snoc t
    exact ⟨_ :: vs', v, rfl, .cons h h1, h2⟩
theorem siz_pos (t : Kh.T) : 1 ≤ siz t := by cases t <;> simp [siz]
theorem len_sizs : ∀ ts : List Kh.T, ts.length ≤ sizs ts
  | [] => Nat.zero_le _
  | t :: ts => by rw [sizs, List.length_cons]; have := siz_pos t; have := len_sizs ts; omega
theorem sizs_app : ∀ xs ys : List Kh.T, sizs (xs ++ ys) = sizs xs + sizs ys
  | [], ys => by simp [sizs]
  | x :: xs, ys => by rw [List.cons_append, sizs, sizs, sizs_app xs ys]; omega
abbrev spIsTree (K : PySem.W.Frag) : Sp := spP K t1 (fun t => Wf t ∧ siz t ≤ 100000) fun _ => .bool true
theorem ok_is_tree (T : Txt K mg a fd C tk) : FnOk P w K mg base CX0 5 (a 5) (fd 5) ["value"] (spIsTree K) := by
  have G_is_gate : FnOk P w K mg base CX0 4 (a 4) (fd 4) ["value"] (spIsGate K) := ok_is_gate T
  have G_is_number_below : FnOk P w K mg base CX0 3 (a 3) (fd 3) ["value", "many"] (spBelow K) := ok_is_number_below T
  refine T.F_is_tree.ok sc_is_tree (fun vs H Q E h => spP_len (fun _ => rfl) h) (fun cdv A outer s H vs Q E hr h => ?_)
  obtain ⟨S, t, kn, hd, ⟨wf, sz⟩, q⟩ := h
  obtain - | ⟨hd, ⟨⟩⟩ := hd
  rename_i v
  refine ⟨_, (pss_cons (ps_set (i := 1) sc_is_tree.nd rfl (Or.inl rfl) (pe_lst (pa_cons (pv 0) pa_nil)))
      (pss_cons (ps_while PassesOwn.never (pt_cmpR op_gt (pe_callB (k_len (K := K)) (by rfl) T.z_len (by decide +kernel) (pa_cons (pv 1) pa_nil)) pe_int (nomark _))
        (pss_cons (ps_set (i := 2) sc_is_tree.nd rfl (Or.inl rfl) (pe_bm0 PySem.F.plainAttrs_list PySem.F.slot_list_pop PySem.F.type_list_pop mt_pop (pv 1)))
        (pss_one (ps_if (pt_val (pe_call G_is_gate (hr.mono (by omega)) (by rfl) T.m_is_gate T.F_is_gate.kp T.b_is_gate .nil pass0 (pa_cons (pv 2) pa_nil)))
          (pss_one (ps_expr (pe_bm PySem.F.plainAttrs_list PySem.F.slot_list_extend PySem.F.type_list_extend (k_ext (K := K)) (pv 1) (pa_cons (pe_ix (k_ix (K := K)) (pv 2) pe_int (fun _ _ => rfl)) pa_nil)))) (pss_one (ps_if (pt_not (pt_val (pe_call G_is_number_below (hr.mono (by omega)) (by rfl) T.m_is_number_below T.F_is_number_below.kp T.b_is_number_below .nil pass0 (pa_cons (pv 2) (pa_cons (pe_glob (v := .int 24) (by rfl) T.m_HOUSES ⟨_, rfl⟩) pa_nil)))))
            (pss_one (ps_ret pe_bl)) pss_nil))))))
      (pss_one (ps_ret pe_bl)))), ?_⟩
  refine s_seq (s_set (t_lst (a_cons (t_var rfl ⟨le1, fun D hD => ?_⟩))))
  refine s_seq ?_
  refine ⟨fun m σ H' => ∃ vs ts x2, σ = [some v, some (.ref D), x2] ∧ H' D = some (.lst vs) ∧ DpAll K (off (plus S D) H') vs (ts.map tD) ∧ (∀ t ∈ ts, Wf t) ∧ m = sizs ts ∧ sizs ts ≤ 100000 ∧ Same H H',
    ⟨_, [v], [t], none, rfl, upd_same, .cons (dp_same (off_plus hD (same_new hD)) _ _ hd) .nil, fun p hp => by rw [List.mem_singleton.mp hp]; exact wf, rfl, by simp [sizs]; exact sz, same_new hD⟩, ?_⟩
  rintro m σ H' ⟨vs, ts, x2, rfl, hv, da, wfs, rfl, sz', sm⟩
  refine b_test (t_op (t_cb1 (t_var rfl ⟨D, vs, rfl, .inl (sqL hv), t_c ⟨_, _, rfl, rfl, _, rfl, ?_⟩⟩)))
  have ln : vs.length = ts.length := by rw [dpa_len da, List.length_map]
  rcases List.eq_nil_or_concat ts with rfl | ⟨ts', t', rfl⟩
  · have e : vs = [] := List.eq_nil_of_length_eq_zero ln
    subst e
    refine ifF (by decide) (nx_of ?_)
    exact s_ret (t_c (q _ _ sm (.bl true)))
  · rw [List.concat_eq_append] at da wfs sz' ln ⊢
    rw [List.map_append] at da
    obtain ⟨vs', u, rfl, d1, d2⟩ := dpa_snoc da
    have wf' : Wf t' := wfs t' (by simp)
    have ep : sizs (ts' ++ [t']) = sizs ts' + siz t' := by rw [sizs_app]; simp [sizs]
    refine ifT (decide_eq_true (by rw [List.length_append, List.length_singleton]; omega)) ⟨fun σ' H'' => ∃ vs ts x2, σ' = [some v, some (.ref D), x2] ∧ H'' D = some (.lst vs) ∧ DpAll K (off (plus S D) H'') vs (ts.map tD) ∧ (∀ t ∈ ts, Wf t) ∧ sizs ts < sizs (ts' ++ [t']) ∧ Same H H'', ?_, ?_⟩
    · rintro σ' H'' ⟨vs, ts, x2, h1, h2, h3, h4, h5, h6⟩
      exact ⟨_, h5, vs, ts, x2, h1, h2, h3, h4, rfl, by omega, h6⟩
    refine s_seq (s_set (t_bm0 (t_var rfl ⟨.inl ⟨rfl, _, sqL hv⟩, D, _, u, rfl, rfl, hv, by simp, ?_⟩)))
    have e1 : (vs' ++ [u]).dropLast = vs' := by simp
    rw [e1]
    have sm1 : Same H (upd H' D (.lst vs')) := smut sm hD
    have eo : off (plus S D) (upd H' D (.lst vs')) = off (plus S D) H' := off_mut (.inr rfl)
    rw [← eo] at d1 d2
    generalize hH : upd H' D (.lst vs') = H1 at *
    have hv1 : H1 D = some (.lst vs') := by rw [← hH]; exact upd_same
    refine s_if (b_val (t_call1 (t_var rfl (spP_bl off_sub t' (.cons d2 .nil) wf' rfl fun H2 s2 => ⟨_, rfl, ?_⟩))))
    have hv2 := s2 _ _ hv1
    have d2' := dp_same (off_same s2) _ _ d2
    have d1' := dpa_same (off_same s2) _ _ d1
    cases t' with
    | leaf n =>
      rw [tD_leaf] at d2'
      have hn : n < 24 := by rw [Wf] at wf'; exact wf'
      refine ifF rfl (s_if (b_not (b_val (t_call2 (t_var rfl (t_c (spP_bl off_sub (PyData.int (n : Nat), (24 : Int)) (.cons d2' (.cons (.int 24) .nil)) trivial rfl fun H3 s3 => ⟨_, rfl, ?_⟩)))))))
      have eb : belowD 24 (.int ((n : Nat) : Int)) = true := by simp [belowD]; omega
      refine ifF (by rw [eb]; rfl) (s_next ⟨vs', ts', _, rfl, s3 _ _ hv2, dpa_same (off_same s3) _ _ d1', fun p hp => wfs p (by simp [hp]), by rw [ep]; have := siz_pos (.leaf n); omega, (sm1.trans s2).trans s3⟩)
    | gate b k ps =>
      rw [tD_gate] at d2'
      refine ifT rfl (s_drop (t_bm (t_var rfl ⟨.inl ⟨rfl, _, sqL hv2⟩, a_cons (t_op (t_var rfl (t_c (ix_d (i := 2) off_sub d2' rfl rfl fun z dz => ?_))))⟩)))
      obtain ⟨zb, zs, rfl, hz, da⟩ := items_at dz (items_sq b _)
      have lz := dpa_len da
      rw [List.length_map] at lz
      have lv' : vs'.length = ts'.length := by rw [dpa_len d1', List.length_map]
      have h1 := len_sizs ts'
      have h2 := len_sizs ps
      have h3 : siz (.gate b k ps) = 1 + sizs ps := by rw [siz]
      refine ⟨D, zb, vs', zs, rfl, rfl, hv2, hz.imp (fun y => off_sub.seq y) (fun y => same_t off_sub y), Nat.le_trans (show vs'.length + zs.length ≤ 100000 by omega) (by decide), vs' ++ zs, ts' ++ ps, _, rfl, upd_same, ?_, ?_, ?_, ?_⟩
      · rw [off_mut (show plus S D D from .inr rfl), List.map_append]
        exact dpa_app d1' da
      · intro p hp
        rcases List.mem_append.mp hp with hp | hp
        · exact wfs p (by simp [hp])
        · exact ((wf_gate b k ps).mp wf').2.2 p hp
      · rw [sizs_app, ep]; omega
      · exact smut (sm1.trans s2) hD
/-- houses, and a list or a tuple of different ones of them -/
def hS (x : List Nat × Bool × List Nat) : List PyData := [.tuple (x.1.map nD), sq x.2.1 (x.2.2.map nD)]
def preH (x : List Nat × Bool × List Nat) : Prop := (∀ n ∈ x.2.2, n < 24 ∧ n ∈ x.1) ∧ x.2.2.Nodup ∧ x.2.2.length ≤ 1000
abbrev spAreHouses (K : PySem.W.Frag) : Sp := spP K hS preH fun _ => .bool true
theorem nD_map (ns : List Nat) : ns.map nD = (ns.map fun m : Nat => ((m : Nat) : Int)).map PyData.int := by rw [List.map_map]; rfl
theorem isListD_sq (b : Bool) (ds : List PyData) : isListD (sq b ds) = true := by cases b <;> rfl
/-- all are so -/
theorem all_map {n : Nat} {f : Nat → Bool} (h : ∀ i, i < n → f i = true) : ((List.range n).map f).all id = true := by
  rw [List.all_map, List.all_eq_true]
  intro x hx
  exact h x (List.mem_range.mp hx)
theorem ok_are_houses (T : Txt K mg a fd C tk) : FnOk P w K mg base CX0 4 (a 12) (fd 12) ["members", "value"] (spAreHouses K) := by
  have G_is_list : FnOk P w K mg base CX0 1 (a 2) (fd 2) ["value"] (spIsList K) := ok_is_list T
  have G_is_number_below : FnOk P w K mg base CX0 3 (a 3) (fd 3) ["value", "many"] (spBelow K) := ok_is_number_below T
  refine T.F_are_houses.ok sc_are_houses (fun vs H Q E h => spP_len (fun _ => rfl) h) (fun cdv A outer s H vs Q E hr h => ?_)
  obtain ⟨S, ⟨ms, c, ns⟩, kn, hd, ⟨hin, nd, hl⟩, q⟩ := h
  obtain - | ⟨hm, - | ⟨hd, ⟨⟩⟩⟩ := hd
  rename_i vm v
  replace hm : Dp K (off S H) vm (.tuple (ms.map nD)) := hm
  replace hd : Dp K (off S H) v (sq c (ns.map nD)) := hd
  replace hin : ∀ n ∈ ns, n < 24 ∧ n ∈ ms := hin
  replace hl : ns.length ≤ 1000 := hl
  replace nd : ns.Nodup := nd
  have hl' : (ns.map nD).length ≤ 100000 := by rw [List.length_map]; omega
  have item : ∀ {j d}, (ns.map nD)[j]? = some d → ∃ n, n ∈ ns ∧ ns[j]? = some n ∧ d = PyData.int ((n : Nat) : Int) := fun {j d} h => by
    rw [List.getElem?_map] at h
    cases e : ns[j]? with
    | none => rw [e] at h; cases h
    | some n => rw [e] at h; exact ⟨n, List.mem_of_getElem? e, e, (Option.some.inj h).symm⟩
  refine ⟨_, (pss_cons (ps_if (PW.pt (pw_or (pt_not (pt_val (pe_call G_is_list (hr.mono (by omega)) (by rfl) T.m_is_list T.F_is_list.kp T.b_is_list .nil pass0 (pa_cons (pv 1) pa_nil)))) (pw_or1 (pt_not (pt_val (pe_callB (k_all (K := K) rfl) (by rfl) T.z_all (by decide +kernel) (pa_cons (pe_lc (own := [("house", 3)]) (g := gName 3) (tt := tYes) rfl sc_are_houses.nd (k_pi (K := K) (pv 1)) (blkOk_by (own := [("house", 3)]) (N := are_houses_N) (sc := defScope are_houses_s) (by decide +kernel)) (fun _ _ _ _ _ => (pg_name (i := 3) sc_are_houses.nd rfl (Or.inl rfl))) (fun _ _ _ _ _ => pts_nil) (fun _ _ _ _ _ => (pe_call G_is_number_below (hr.mono (by omega)) (by rfl) T.m_is_number_below T.F_is_number_below.kp T.b_is_number_below .nil pass0 (pa_cons (pv 3) (pa_cons (pe_glob (v := .int 24) (by rfl) T.m_HOUSES ⟨_, rfl⟩) pa_nil))))) pa_nil)))))))
        (pss_one (ps_ret pe_bl)) pss_nil)
      (pss_cons (ps_setDc (i := 2) (own := [("house", 3)]) (g := gName 3) (tt := tYes) rfl sc_are_houses.nd rfl rfl (sw_dict rfl rfl rfl (by decide +kernel)) (k_pi (K := K) (pv 1)) (blkOk_by (own := [("house", 3)]) (N := are_houses_N) (sc := defScope are_houses_s) (by decide +kernel)) (fun _ _ _ _ _ => (pg_name (i := 3) sc_are_houses.nd rfl (Or.inl rfl))) (fun _ _ _ _ _ => pts_nil) (fun _ _ _ _ _ => (pv 3)) (fun _ _ _ _ _ => pe_bl))
      (pss_one (ps_ret (pe_and (pe_cmpR op_eq (pe_callB call_lenD (by rfl) T.z_len (by decide +kernel) (pa_cons (pv 2) pa_nil)) (pe_callB (k_len (K := K)) (by rfl) T.z_len (by decide +kernel) (pa_cons (pv 1) pa_nil)) (nomark _)) (pe_one (pe_callB (k_all (K := K) rfl) (by rfl) T.z_all (by decide +kernel) (pa_cons (pe_lc (own := [("house", 3)]) (g := gName 3) (tt := tYes) rfl sc_are_houses.nd (k_pi (K := K) (pv 1)) (blkOk_by (own := [("house", 3)]) (N := are_houses_N) (sc := defScope are_houses_s) (by decide +kernel)) (fun _ _ _ _ _ => (pg_name (i := 3) sc_are_houses.nd rfl (Or.inl rfl))) (fun _ _ _ _ _ => pts_nil) (fun _ _ _ _ _ => (pe_cmpR (k_in (K := K)) (pv 3) (pv 0) (by rfl)))) pa_nil)))))))), ?_⟩
  refine s_seq (s_if (b_or (b_not (b_val (t_call1 (t_var rfl (spP_bl off_sub (sq c (ns.map nD)) (.cons hd .nil) trivial rfl fun H1 s1 => ⟨_, rfl, ifF (by rw [isListD_sq]; rfl) ?_⟩)))))))
  have kn1 := kn.same s1
  have hm1 := dp_same (off_same s1) _ _ hm
  have hd1 := dp_same (off_same s1) _ _ hd
  refine b_not (b_val (t_cb1 (lc_seq (b := c) (ds := ns.map nD) (fun _ => .bool true) kn1 (fun Q q => t_var rfl (q _ _ (Same.refl _) hd1)) hl' (fun _ => rfl) (fun j x d H2 S' dj s2 kn2 dx hS hoff Q q => ?_) fun D H2 ys hD s2 hd2 h2 => ?_)))
  · obtain ⟨n, hn, _, rfl⟩ := item dj
    refine t_call2 (t_var rfl (t_c (spP_bl off_sub (PyData.int ((n : Nat) : Int), (24 : Int)) (DpAll.cons dx (DpAll.cons (Dp.int 24) DpAll.nil)) trivial rfl fun H3 s3 => q _ _ s3 (dp_bl ?_))))
    have := (hin n hn).1
    simp [belowD]; omega
  · refine all_d (bs := (List.range (ns.map nD).length).map fun _ => true) off_sub (by rw [List.map_map]; exact h2) ⟨_, rfl, ifF (by rw [all_map fun _ _ => rfl]; rfl) (s_next ?_)⟩
    have kn2 := kn1.same s2
    have hd2' := dp_same (off_same s2) _ _ hd1
    have hm2 := dp_same (off_same s2) _ _ hm1
    -- the dict
    refine s_seq (s_set (t_dc (it_any (b := c) (ds := ns.map nD) (S := S) (fun Q q => t_var rfl (q _ _ (Same.refl _) hd2')) fun J xs H3 s3 ha w U hU => ?_)))
    have ex := dpa_ints (ns := ns.map fun m : Nat => ((m : Nat) : Int)) (by rw [← nD_map]; exact ha)
    have lx : xs.length = ns.length := by rw [ex]; simp
    refine wlk w (fun x H' Nx => gName 3 x (wipe (L2.start are_houses_N [vm, v]) [3]) H' fun σ2 H2 => wipe σ2 [3] = wipe (L2.start are_houses_N [vm, v]) [3] ∧ tYes σ2 H2 fun b H3 => if b = true then tVar 3 σ2 H3 fun y H4 => tC (.bl true) σ2 H4 fun z H5 => ∃ kvs k, y = kV k ∧ H5 U = some (.dK kvs) ∧ kvs.length < sizeLine ∧ Nx (upd H5 U (.dK (putK kvs k z))) else Nx H3)
      (fun i H' => H' U = some (.dK ((ns.take i).map fun n : Nat => ((Sum.inl ((n : Nat) : Int) : Key), V.bl true))) ∧ Same H3 H') ⟨upd_same, same_new hU⟩ (fun i H' _ h => off_sub.trans h.2) ?_ fun H4 h4 => ?_
    · rintro i x H4 H5 hi ⟨hU4, s4⟩ ⟨rfl, xi⟩
      rw [lx] at hi
      rw [ex, List.map_map, List.getElem?_map, List.getElem?_eq_getElem hi] at xi
      cases xi
      refine ⟨rfl, t_yes (t_var rfl (t_c ⟨_, Sum.inl ((ns[i] : Nat) : Int), rfl, hU4, ?_, ?_, smut s4 hU⟩))⟩
      · rw [List.length_map, List.length_take]
        exact Nat.lt_of_le_of_lt (show min i ns.length ≤ 1000 by omega) (by decide)
      · rw [putK_new, upd_same, List.take_add_one, List.getElem?_eq_getElem hi, List.map_append]
        · rfl
        · have h0 := valV_any (Sum.inl ((ns[i] : Nat) : Int) : Key) ((ns.take i).map fun n : Nat => ((Sum.inl ((n : Nat) : Int) : Key), V.bl true))
          cases hq : valV ((ns.take i).map fun n : Nat => ((Sum.inl ((n : Nat) : Int) : Key), V.bl true)) (Sum.inl ((ns[i] : Nat) : Int) : Key) with
          | none => rfl
          | some z =>
            rw [hq] at h0
            obtain ⟨kv, hkv, he⟩ := List.any_eq_true.mp (h0.trans rfl)
            obtain ⟨m, hm, rfl⟩ := List.mem_map.mp hkv
            have e1 : (Sum.inl ((m : Nat) : Int) : Key) = Sum.inl ((ns[i] : Nat) : Int) := of_decide_eq_true he
            have e2 : m = ns[i] := by have := Sum.inl.inj e1; omega
            rw [e2] at hm
            obtain ⟨j, hj, ej⟩ := List.mem_take_iff_getElem.mp hm
            have hj2 : j < ns.length := by omega
            have := (List.getElem_inj (h₀ := hj2) (h₁ := hi) nd).mp ej
            omega
    · obtain ⟨hU4, s4⟩ := h4
      rw [lx, List.take_length] at hU4
      have sm : Same H2 H4 := s3.trans s4
      have hd4 := dp_same (off_same sm) _ _ hd2'
      have hm4 := dp_same (off_same sm) _ _ hm2
      refine nx_of ?_
      refine s_ret (t_andV (t_op (t_cb (a_cons (t_var rfl (a_nil ?_))))))
      refine ⟨U, _, rfl, hU4, ?_⟩
      refine t_cb1 (t_var rfl ?_)
      refine len_d off_sub hd4 (items_sq c _) ?_
      refine ⟨rfl, ?_⟩
      refine bl_if (fun _ => ?_) (fun e => absurd (of_decide_eq_false e) (by simp))
      refine t_cb1 (lc_seq (b := c) (ds := ns.map nD) (fun _ => .bool true) (kn2.same sm) (fun Q q => t_var rfl (q _ _ (Same.refl _) hd4)) hl' (fun _ => rfl) (fun j x d H5 S' dj s5 kn5 dx hS hoff Q q => ?_) fun D' H5 ys' hD' s5 hd5 h5 => ?_)
      · obtain ⟨n, hn, _, rfl⟩ := item dj
        cases dx
        refine t_op (t_var rfl (t_var rfl (in_d (ns := ms.map fun m : Nat => ((m : Nat) : Int)) off_sub (dp_same hoff _ _ hm4) (by rw [← nD_map]; rfl) (q _ _ (Same.refl _) (dp_bl ?_)))))
        exact decide_eq_true (mem_ints.mpr (hin n hn).2)
      · refine all_d (bs := (List.range (ns.map nD).length).map fun _ => true) off_sub (by rw [List.map_map]; exact h5) (q _ _ (((s1.trans s2).trans sm).trans s5) (dp_bl ?_))
        exact all_map fun _ _ => rfl
end
end K31

set_option maxRecDepth 100000
set_option maxHeartbeats 4000000
namespace K31
open PySem PySem.Spec PyProof.Rows L2 Kh
/-- what of the class Tree is told -/
structure TxC (K : PySem.W.Frag) (mg : Str → Option Value) (a : Nat → Addr) (C : Addr) : Prop where
  cls : Cls K C
  n_shape : NoAttr K C "_shape"
  n_leaves : NoAttr K C "_leaves"
  n_members : NoAttr K C "_members"
  M_Tree : Mk K C (a 13)
  m_Tree : mg "Tree" = some (.ref C)
  me_members : Meth K C "members" (a 17)
  me_stands : Meth K C "stands" (a 18)
  p_shape : ∃ p, PropOf K C "shape" p (a 15)
  p_is_plain : ∃ p, PropOf K C "is_plain" p (a 16)
  me_len : Meth K C "__len__" (a 19)
  me_contains : Meth K C "__contains__" (a 20)
  me_invert : Meth K C "__invert__" (a 21)
  me_and : Meth K C "__and__" (a 22)
  me_or : Meth K C "__or__" (a 23)
  me_eq : Meth K C "__eq__" (a 24)
  me_repr : Meth K C "__repr__" (a 25)
/-- the houses of a tree, in their order -/
def mem (t : Kh.T) : List Nat := (List.range 24).filter fun n => decide (n ∈ lv t)
def flds (v1 v2 v3 : V) : List (Str × V) := [("_shape", v1), ("_leaves", v2), ("_members", v3)]
/-- at x stands the object of a tree -/
def TreeAt (K : PySem.W.Frag) (C : Addr) (H : Hp) (t : Kh.T) (x : Addr) : Prop := ∃ dx v1 v2 v3, H x = some (.ins C dx (flds v1 v2 v3)) ∧
  Dp K H v1 (tD (flg true t)) ∧ Dp K H v2 (.tuple ((lv t).map nD)) ∧ Dp K H v3 (.tuple ((mem t).map nD))
theorem TreeAt.same {K : PySem.W.Frag} {C : Addr} {H H' : Hp} {t : Kh.T} {x : Addr} (h : TreeAt K C H t x) (e : Same H H') : TreeAt K C H' t x := by
  obtain ⟨dx, v1, v2, v3, h0, h1, h2, h3⟩ := h
  exact ⟨dx, v1, v2, v3, e _ _ h0, dp_same e _ _ h1, dp_same e _ _ h2, dp_same e _ _ h3⟩
/-- a tree that can be made -/
def Okt (t : Kh.T) : Prop := Wf t ∧ (lv t).length ≤ 24 ∧ dep t ≤ 5 ∧ ((lv t).length ≤ (mem t).length ∨ (mem t).length ≤ 8)
theorem Okt.sm {t : Kh.T} (h : Okt t) : Sm t := ⟨h.1, Nat.le_trans h.2.1 (by decide)⟩
theorem siz_le : ∀ t d, Wf t → dep t ≤ d → siz t ≤ (d + 1) * (lv t).length := by
  intro t
  refine Kh.T.ind (P := fun t => ∀ d, Wf t → dep t ≤ d → siz t ≤ (d + 1) * (lv t).length) (fun n d _ _ => by rw [lv_leaf]; simp [siz]) (fun b k ps ih d wf dp => ?_) t
  cases d with
  | zero => exact absurd dp (dep_gate0 b k ps)
  | succ d =>
    obtain ⟨k1, k2, wfs⟩ := (wf_gate b k ps).mp wf
    have dps := (dep_gate b k ps).mp dp
    have pos := lv_pos _ wf
    rw [lv_gate] at pos ⊢
    have go : ∀ qs : List Kh.T, (∀ p ∈ qs, p ∈ ps) → sizs qs ≤ (d + 1) * (qs.flatMap lv).length := by
      intro qs
      induction qs with
      | nil => intro _; simp [sizs]
      | cons p r ih2 =>
        intro hq
        have h1 := ih p (hq p List.mem_cons_self) d (wfs p (hq p List.mem_cons_self)) (dps p (hq p List.mem_cons_self))
        have h2 := ih2 fun q h => hq q (List.mem_cons_of_mem _ h)
        rw [sizs, List.flatMap_cons, List.length_append, Nat.mul_add]
        omega
    have h := go ps fun p h => h
    have e : siz (.gate b k ps) = 1 + sizs ps := by rw [siz]
    rw [e]
    have e2 : (d + 1 + 1) * (ps.flatMap lv).length = (d + 1) * (ps.flatMap lv).length + (ps.flatMap lv).length := by rw [Nat.add_mul (d + 1) 1, Nat.one_mul]
    rw [e2]; omega
theorem Okt.siz {t : Kh.T} (h : Okt t) : siz t ≤ 100000 := by
  have h1 := siz_le t 5 h.1 h.2.2.1
  have h2 := h.2.1
  omega
theorem mem_le (t : Kh.T) : (mem t).length ≤ 24 := by
  have := List.length_filter_le (fun n => decide (n ∈ lv t)) (List.range 24)
  rwa [List.length_range] at this
section
variable {P : Program} {w : World} {K : PySem.W.Frag} {mg : Str → Option Value} {base : Heap} {a : Nat → Addr} {fd : Nat → FuncData} {C : Addr} {tk : Nat → Tok}
def spInit (K : PySem.W.Frag) (C : Addr) : Sp := fun vs H Q _ => ∃ (S : Addr → Prop) (x : Addr) (dx : Addr) (v : V) (t : Kh.T), vs = [.ref x, v] ∧ Kn S H ∧ S x ∧ H x = some (.ins C dx []) ∧ Dp K (off S H) v (tD t) ∧ Okt t ∧
  ∀ H' v1 v2 v3, SameBut x H H' → H' x = some (.ins C dx (flds v1 v2 v3)) → Dp K (off S H') v1 (tD (flg true t)) → Dp K (off S H') v2 (.tuple ((lv t).map nD)) → Dp K (off S H') v3 (.tuple ((mem t).map nD)) → Q .non H'
theorem off_bt {S : Addr → Prop} {x : Addr} {H H' : Hp} (hx : S x) (e : SameBut x H H') : Same (off S H) (off S H') := fun b o h => by
  obtain ⟨n, h⟩ := off_some h
  rw [off_out n]
  exact e b o (fun z => n (z ▸ hx)) h
theorem kn_bt {S : Addr → Prop} {x : Addr} {H H' : Hp} (kn : Kn S H) (e : SameBut x H H') (hx : H' x ≠ none) : Kn S H' := fun b z => by
  by_cases q : b = x
  · subst q; exact hx
  · cases h : H b with
    | none => exact (kn b z h).elim
    | some o => rw [e b o q h]; exact fun z => nomatch z
theorem ok_Tree_init (T : Txt K mg a fd C tk) (U : TxC K mg a C) : FnOk P w K mg base CX0 8 (a 13) (fd 13) ["self", "shape"] (spInit K C) := by
  have G_is_tree : FnOk P w K mg base CX0 5 (a 5) (fd 5) ["value"] (spIsTree K) := ok_is_tree T
  have G_firm := ok_firm (P := P) (w := w) (base := base) T 6
  have G_leaves := ok_leaves (P := P) (w := w) (base := base) T 6
  have G_depth := ok_depth (P := P) (w := w) (base := base) T 6
  refine T.F_Tree_init.ok sc_Tree_init (fun vs H Q E h => by obtain ⟨_, _, _, _, _, rfl, _⟩ := h; rfl) (fun cdv A outer s H vs Q E hr h => ?_)
  obtain ⟨S, x, dx, v, t, rfl, kn, hS, hx, hd, ok, q⟩ := h
  have pre : preT 6 t := ⟨ok.sm, Nat.lt_succ_of_le ok.2.2.1⟩
  refine ⟨_, (pss_cons (ps_if (pt_not (pt_val (pe_call G_is_tree (hr.mono (by omega)) (by rfl) T.m_is_tree T.F_is_tree.kp T.b_is_tree .nil pass0 (pa_cons (pv 1) pa_nil))))
        (pss_one ps_never) pss_nil)
      (pss_cons (ps_fld (pv 0) (pe_call G_firm (hr.mono (by omega)) (by rfl) T.m_firm T.F_firm.kp T.b_firm .nil pass0 (pa_cons (pv 1) pa_nil)) rfl)
      (pss_cons (ps_fld (pv 0) (pe_callTy (k_tup (K := K)) (by rfl) T.z_tuple (by decide +kernel) (pa_cons (pe_call G_leaves (hr.mono (by omega)) (by rfl) T.m_leaves T.F_leaves.kp T.b_leaves .nil pass0 (pa_cons (pv 1) pa_nil)) pa_nil)) rfl)
      (pss_cons (ps_fld (pv 0) (pe_callTy (k_tup (K := K)) (by rfl) T.z_tuple (by decide +kernel) (pa_cons (pe_lc (own := [("house", 2)]) (g := gName 2) (tt := _) rfl sc_Tree_init.nd (pi_range1 (by rfl) T.z_range (pa_cons (pe_glob (v := .int 24) (by rfl) T.m_HOUSES ⟨_, rfl⟩) pa_nil)) (blkOk_by (own := [("house", 2)]) (N := Tree_init_N) (sc := defScope Tree_init_s) (by decide +kernel)) (fun _ _ _ _ _ => (pg_name (i := 2) sc_Tree_init.nd rfl (Or.inl rfl))) (fun _ _ _ _ _ => (pts_one (pt_cmpR (k_in (K := K)) (pv 2) (k_fld (K := K) (pv 0) rfl) (by rfl)))) (fun _ _ _ _ _ => (pv 2))) pa_nil)) rfl)
      (pss_cons (ps_if (pt_cmpR op_gt (pe_callB (k_len (K := K)) (by rfl) T.z_len (by decide +kernel) (pa_cons (k_fld (K := K) (pv 0) rfl) pa_nil)) (pe_glob (v := .int 24) (by rfl) T.m_MOST_LEAVES ⟨_, rfl⟩) (nomark _))
        (pss_one ps_never) pss_nil)
      (pss_cons (ps_if (pt_cmpR op_gt (pe_call G_depth (hr.mono (by omega)) (by rfl) T.m_depth T.F_depth.kp T.b_depth .nil pass0 (pa_cons (pv 1) pa_nil)) (pe_glob (v := .int 5) (by rfl) T.m_MOST_DEPTH ⟨_, rfl⟩) (nomark _))
        (pss_one ps_never) pss_nil)
      (pss_one (ps_if (PW.pt (pw_and (pt_cmpR op_lt (pe_callB (k_len (K := K)) (by rfl) T.z_len (by decide +kernel) (pa_cons (k_fld (K := K) (pv 0) rfl) pa_nil)) (pe_callB (k_len (K := K)) (by rfl) T.z_len (by decide +kernel) (pa_cons (k_fld (K := K) (pv 0) rfl) pa_nil)) (nomark _)) (pw_and1 (pt_cmpR op_gt (pe_callB (k_len (K := K)) (by rfl) T.z_len (by decide +kernel) (pa_cons (k_fld (K := K) (pv 0) rfl) pa_nil)) (pe_glob (v := .int 8) (by rfl) T.m_MOST_MIXED ⟨_, rfl⟩) (nomark _)))))
        (pss_one ps_never) pss_nil)))))))), ?_⟩
  refine s_seq (s_if (b_not (b_val (t_call1 (t_var rfl (spP_bl off_sub t (.cons hd .nil) ⟨ok.1, ok.siz⟩ rfl fun H1 s1 => ⟨_, rfl, ifF rfl (s_next ?_)⟩))))))
  have kn1 := kn.same s1
  have hd1 := dp_same (off_same s1) _ _ hd
  have hx1 := s1 _ _ hx
  refine s_seq (s_fld (t_call1 (t_var rfl ⟨S, t, kn1, .cons hd1 .nil, pre, fun v1 H2 s2 d1 => ?_⟩)))
  have hx2 := s2 _ _ hx1
  refine t_var rfl ⟨x, C, dx, [], rfl, hx2, U.cls, U.n_shape, by decide, ?_⟩
  have b2 : SameBut x H (upd H2 x (.ins C dx [("_shape", v1)])) := bmut (sbut (s1.trans s2))
  have d1 := dp_same (off_bt (H' := upd H2 x (.ins C dx [("_shape", v1)])) hS (bmut (sbut (Same.refl H2)))) _ _ d1
  have hx2 : (upd H2 x (.ins C dx [("_shape", v1)])) x = some (.ins C dx [("_shape", v1)]) := upd_same
  generalize hH : upd H2 x (.ins C dx [("_shape", v1)]) = H2' at d1 b2 hx2
  rw [show upd H2 x (HO.ins C dx (putF "_shape" v1 [])) = H2' from hH]
  have kn2 := kn_bt kn b2 (some_ne hx2)
  have hd2 := dp_same (off_bt hS b2) _ _ hd
  refine s_seq (s_fld (t_cb1 (t_call1 (t_var rfl ⟨S, t, kn2, .cons hd2 .nil, pre, fun u H3 s3 du => ?_⟩))))
  refine tup_d (kn2.same s3) du rfl fun v2 H4 s4 d2 => ?_
  have hx4 := s4 _ _ (s3 _ _ hx2)
  refine t_var rfl ⟨x, C, dx, [("_shape", v1)], rfl, hx4, U.cls, U.n_leaves, (by show (1 : Nat) < 1000; decide), ?_⟩
  have e4 : SameBut x H2' (upd H4 x (.ins C dx [("_shape", v1), ("_leaves", v2)])) := bmut (sbut (s3.trans s4))
  have d2 := dp_same (off_bt (H' := upd H4 x (.ins C dx [("_shape", v1), ("_leaves", v2)])) hS (bmut (sbut (Same.refl H4)))) _ _ d2
  have hx4 : (upd H4 x (.ins C dx [("_shape", v1), ("_leaves", v2)])) x = some (.ins C dx [("_shape", v1), ("_leaves", v2)]) := upd_same
  generalize hH : upd H4 x (.ins C dx [("_shape", v1), ("_leaves", v2)]) = H4' at d2 e4 hx4
  rw [show upd H4 x (HO.ins C dx (putF "_leaves" v2 [("_shape", v1)])) = H4' from hH]
  have kn4 := kn_bt kn2 e4 (some_ne hx4)
  have hd4 := dp_same (off_bt hS e4) _ _ hd2
  have d1 := dp_same (off_bt hS e4) _ _ d1
  refine s_seq (s_fld (t_cb1 (lc_rngF (K := K) (n := 24) (fun j => decide (j ∈ lv t)) nD kn4 (by decide) (fun q h => a_cons (t_c (a_nil (h _ (Same.refl _))))) (fun _ => rfl) (fun j H5 S' hj s5 kn5 hS' off5 Q q => ?_) (fun j H5 S' hj pj s5 kn5 hS' off5 Q q => ?_) fun D H5 ys hD s5 hd5 d5 => ?_)))
  · refine b_test (t_op (t_var rfl (t_fld (t_var rfl ⟨x, C, dx, _, v2, rfl, s5 _ _ hx4, U.cls, U.n_leaves, rfl, ?_⟩))))
    refine in_d (ns := (lv t).map fun m : Nat => ((m : Nat) : Int)) off_sub (dp_same off5 _ _ d2) (by rw [← nD_map]; rfl) ⟨_, rfl, ?_⟩
    have e : decide (((j : Nat) : Int) ∈ (lv t).map fun m : Nat => ((m : Nat) : Int)) = decide (j ∈ lv t) := decide_eq_decide.mpr mem_ints
    show Q (decide (((j : Nat) : Int) ∈ (lv t).map fun m : Nat => ((m : Nat) : Int))) H5
    rw [e]; exact q _ (Same.refl _)
  · exact t_var rfl (q _ _ (Same.refl _) (Dp.int _))
  · refine tup_d (kn4.same s5) d5 rfl fun v3 H6 s6 d3 => ?_
    have hx6 := s6 _ _ (s5 _ _ hx4)
    refine t_var rfl ⟨x, C, dx, _, rfl, hx6, U.cls, U.n_members, (by show (2 : Nat) < 1000; decide), ?_⟩
    have e6 : SameBut x H4' (upd H6 x (.ins C dx (flds v1 v2 v3))) := bmut (sbut (s5.trans s6))
    have d3 := dp_same (off_bt (H' := upd H6 x (.ins C dx (flds v1 v2 v3))) hS (bmut (sbut (Same.refl H6)))) _ _ d3
    have hx6 : (upd H6 x (.ins C dx (flds v1 v2 v3))) x = some (.ins C dx (flds v1 v2 v3)) := upd_same
    generalize hH : upd H6 x (.ins C dx (flds v1 v2 v3)) = H6' at d3 e6 hx6
    rw [show upd H6 x (HO.ins C dx (putF "_members" v3 [("_shape", v1), ("_leaves", v2)])) = H6' from hH]
    have b6 : SameBut x H H6' := fun b o n h => e6 b o n (e4 b o n (b2 b o n h))
    have kn6 := kn_bt kn b6 (some_ne hx6)
    have hd6 := dp_same (off_bt hS b6) _ _ hd
    have d1 := dp_same (off_bt hS e6) _ _ d1
    have d2 := dp_same (off_bt hS e6) _ _ d2
    refine nx_of (s_seq (s_if (b_test (t_op (t_cb1 (t_fld (t_var rfl ⟨x, C, dx, _, v2, rfl, hx6, U.cls, U.n_leaves, rfl, len_d off_sub d2 rfl (t_c ⟨_, _, rfl, rfl, ?_⟩)⟩)))))))
    refine ⟨_, rfl, ifF (decide_eq_false ?_) (s_next ?_)⟩
    · rw [List.length_map]; have := ok.2.1; omega
    refine s_seq (s_if (b_test (t_op (t_call1 (t_var rfl (spP_int off_sub t (.cons hd6 .nil) pre rfl fun H7 s7 => t_c ⟨_, _, rfl, rfl, ?_⟩))))))
    refine ⟨_, rfl, ifF (decide_eq_false ?_) (s_next ?_)⟩
    · have := ok.2.2.1; omega
    have hx7 := s7 _ _ hx6
    have d1 := dp_same (off_same s7) _ _ d1
    have d2 := dp_same (off_same s7) _ _ d2
    have d3 := dp_same (off_same s7) _ _ d3
    refine s_if (b_and (b_test (t_op (t_cb1 (t_fld (t_var rfl ⟨x, C, dx, _, v3, rfl, hx7, U.cls, U.n_members, rfl, len_d off_sub d3 rfl ?_⟩))))))
    refine t_cb1 (t_fld (t_var rfl ⟨x, C, dx, _, v2, rfl, hx7, U.cls, U.n_leaves, rfl, len_d off_sub d2 rfl ⟨_, _, rfl, rfl, ?_⟩⟩))
    have fin : Q .non H7 := q H7 v1 v2 v3 (fun b o n h => s7 b o (b6 b o n h)) hx7 d1 d2 d3
    refine ⟨_, rfl, if_b (fun c => ?_) (fun c => ?_)⟩
    · refine b_test (t_op (t_cb1 (t_fld (t_var rfl ⟨x, C, dx, _, v3, rfl, hx7, U.cls, U.n_members, rfl, len_d off_sub d3 rfl (t_c ⟨_, _, rfl, rfl, ?_⟩)⟩))))
      refine ⟨_, rfl, ifF (decide_eq_false ?_) (s_next fin)⟩
      have := of_decide_eq_true c
      rw [List.length_map] at this ⊢
      rw [List.length_map] at this
      have em : ((List.range 24).filter fun j => decide (j ∈ lv t)).length = (mem t).length := rfl
      rcases ok.2.2.2 with h | h <;> omega
    · exact ifF rfl (s_next fin)
end
end K31

set_option maxRecDepth 100000
set_option maxHeartbeats 4000000
namespace K31
open PySem PySem.Spec PyProof.Rows L2 Kh
section
variable {P : Program} {w : World} {K : PySem.W.Frag} {mg : Str → Option Value} {base : Heap} {a : Nat → Addr} {fd : Nat → FuncData} {C : Addr} {tk : Nat → Tok}
theorem same_ins {H : Hp} {x dx : Addr} {o o' : HO} (h1 : H x = none) (h2 : H dx = none) : Same H (upd (upd H dx o) x o') := fun b u e => by
  rw [upd_ne (ne_of_none e h1), upd_ne (ne_of_none e h2)]; exact e
/-- Tree(v), v of t -/
theorem mk_tree {S : Addr → Prop} {σ : L2.St} {H : Hp} {ta : TE} {Q : VK} (t : Kh.T) (ok : Okt t) (kn : Kn S H)
    (hev : ∀ Q : VK, (∀ u H1, Same H H1 → Dp K (off S H1) u (tD t) → Q u H1) → ta σ H Q)
    (q : ∀ x H', Same H H' → TreeAt K C (off S H') t x → Q (.ref x) H') : tMake C (spInit K C) [] E0 (tCons ta tNil) σ H Q := by
  refine t_make1 (hev _ fun u H1 s1 du x dx hx hdx ne => ?_)
  have kn1 := kn.same s1
  have sm := same_ins (o := HO.own x) (o' := HO.ins C dx []) hx hdx
  have hup : (upd (upd H1 dx (.own x)) x (.ins C dx [])) x = some (.ins C dx []) := upd_same
  refine ⟨plus S x, x, dx, u, t, rfl, (kn1.same sm).plus (some_ne hup), .inr rfl, hup, dp_same ?_ _ _ du, ok, fun H' v1 v2 v3 sb hx' d1 d2 d3 => ⟨rfl, q x H' ?_ ⟨dx, v1, v2, v3, ?_, dp_same off_fin _ _ d1, dp_same off_fin _ _ d2, dp_same off_fin _ _ d3⟩⟩⟩
  · exact off_plus hx sm
  · intro b o h
    exact sb b o (ne_of_none (s1 b o h) hx) (sm b o (s1 b o h))
  · rw [off_out (kn1.new hx)]; exact hx'
/-- a method of a tree whose answer is data -/
def spM {α : Type} (K : PySem.W.Frag) (C : Addr) (enc : α → List PyData) (pre : Kh.T → α → Prop) (f : Kh.T → α → PyData) : Sp := fun vs H Q _ => ∃ (S : Addr → Prop) (t : Kh.T) (x : Addr) (y : α) (us : List V), vs = .ref x :: us ∧ Kn S H ∧ TreeAt K C (off S H) t x ∧ Okt t ∧ DpAll K (off S H) us (enc y) ∧ pre t y ∧
  ∀ v H', Same H H' → Dp K (off S H') v (f t y) → Q v H'
/-- without further parameters -/
abbrev spM0 (K : PySem.W.Frag) (C : Addr) (f : Kh.T → PyData) : Sp := spM K C (fun _ : Unit => []) (fun _ _ => True) (fun t _ => f t)
theorem spM_len {α : Type} {enc : α → List PyData} {pre : Kh.T → α → Prop} {f : Kh.T → α → PyData} {n : Nat} (hn : ∀ x, (enc x).length = n) {vs : List V} {H : Hp} {Q : VK} {E : XK} (h : spM K C enc pre f vs H Q E) : vs.length = n + 1 := by
  obtain ⟨S, t, x, y, us, rfl, _, _, _, hd, _⟩ := h
  rw [List.length_cons, dpa_len hd, hn]
theorem preOf {t : Kh.T} (ok : Okt t) : preT 6 t := ⟨ok.sm, Nat.lt_succ_of_le ok.2.2.1⟩
/-! flags make no difference -/
theorem lv_flg (c : Bool) : ∀ t, lv (flg c t) = lv t := Kh.T.ind (fun n => by rw [flg_leaf]) fun b k ps ih => by
  rw [flg_gate, lv_gate, lv_gate, List.flatMap_map]
  induction ps with
  | nil => rfl
  | cons p r ih2 =>
    rw [List.flatMap_cons, List.flatMap_cons, ih p List.mem_cons_self, ih2 fun q h => ih q (List.mem_cons_of_mem _ h)]
theorem wf_flg (c : Bool) : ∀ t, Wf (flg c t) ↔ Wf t := Kh.T.ind (fun n => by rw [flg_leaf]) fun b k ps ih => by
  rw [flg_gate, wf_gate, wf_gate, List.length_map]
  refine and_congr_right fun _ => and_congr_right fun _ => ⟨fun h p hp => (ih p hp).mp (h _ (List.mem_map_of_mem hp)), fun h p hp => ?_⟩
  obtain ⟨q, hq, rfl⟩ := List.mem_map.mp hp
  exact (ih q hq).mpr (h q hq)
theorem dep_flg (c : Bool) : ∀ t d, dep (flg c t) ≤ d ↔ dep t ≤ d := Kh.T.ind (fun n d => by rw [flg_leaf]) fun b k ps ih d => by
  rw [flg_gate]
  cases d with
  | zero => exact ⟨fun h => absurd h (dep_gate0 _ _ _), fun h => absurd h (dep_gate0 _ _ _)⟩
  | succ d =>
    rw [dep_gate, dep_gate]
    refine ⟨fun h p hp => (ih p hp d).mp (h _ (List.mem_map_of_mem hp)), fun h p hp => ?_⟩
    obtain ⟨q, hq, rfl⟩ := List.mem_map.mp hp
    exact (ih q hq d).mpr (h q hq)
theorem flg_flg (c e : Bool) : ∀ t, flg c (flg e t) = flg c t := Kh.T.ind (fun n => by rw [flg_leaf, flg_leaf]) fun b k ps ih => by
  rw [flg_gate, flg_gate, flg_gate, List.map_map]
  congr 1
  exact List.map_congr_left fun p hp => ih p hp
theorem con_flg (c : Bool) : ∀ t, con (flg c t) = con t := Kh.T.ind (fun n => by rw [flg_leaf]) fun b k ps ih => by
  rw [flg_gate, con_gate, con_gate, List.map_map, List.length_map]
  congr 1
  exact List.map_congr_left fun p hp => ih p hp
theorem filt_congr {α : Type} {p q : α → Bool} : ∀ {l : List α}, (∀ x ∈ l, p x = q x) → (l.filter p).length = (l.filter q).length
  | [], _ => rfl
  | x :: l, h => by
    have h1 := filt_congr (l := l) fun y hy => h y (List.mem_cons_of_mem _ hy)
    rw [List.filter_cons, List.filter_cons, h x List.mem_cons_self]
    cases q x <;> simp [h1]
theorem st_flg (c : Bool) (s : List Nat) : ∀ t, st s (flg c t) = st s t := Kh.T.ind (fun n => by rw [flg_leaf]) fun b k ps ih => by
  rw [flg_gate, st_gate, st_gate, List.filter_map, List.length_map]
  congr 1
  rw [filt_congr (p := st s ∘ flg c) (q := st s) fun p hp => ih p hp]
theorem mem_flg (c : Bool) (t : Kh.T) : mem (flg c t) = mem t := by unfold mem; rw [lv_flg]
theorem okt_flg {c : Bool} {t : Kh.T} (h : Okt t) : Okt (flg c t) := ⟨(wf_flg c t).mpr h.1, by rw [lv_flg]; exact h.2.1, (dep_flg c t 5).mpr h.2.2.1, by rw [lv_flg, mem_flg]; exact h.2.2.2⟩
theorem ok_Tree_shape (T : Txt K mg a fd C tk) (U : TxC K mg a C) : FnOk P w K mg base CX0 8 (a 15) (fd 15) ["self"] (spM0 K C fun t => tD (flg false t)) := by
  have G_listed := ok_listed (P := P) (w := w) (base := base) T 6
  refine T.F_Tree_shape.ok sc_Tree_shape (fun vs H Q E h => spM_len (fun _ => rfl) h) (fun cdv A outer s H vs Q E hr h => ?_)
  obtain ⟨S, t, x, y, us, rfl, kn, ⟨dx, v1, v2, v3, hx, d1, d2, d3⟩, ok, ⟨⟩, -, q⟩ := h
  refine ⟨_, (pss_one (ps_ret (pe_call G_listed (hr.mono (by omega)) (by rfl) T.m_listed T.F_listed.kp T.b_listed .nil pass0 (pa_cons (k_fld (K := K) (pv 0) rfl) pa_nil)))), ?_⟩
  refine s_ret (t_call1 (t_fld (t_var rfl ⟨x, C, dx, _, v1, rfl, (off_some hx).2, U.cls, U.n_shape, rfl, S, flg true t, kn, .cons d1 .nil, preOf (okt_flg ok), fun v H' s h => q v H' s ?_⟩)))
  replace h : Dp K (off S H') v (tD (flg false (flg true t))) := h
  rw [flg_flg] at h; exact h
theorem ok_Tree_is_plain (T : Txt K mg a fd C tk) (U : TxC K mg a C) : FnOk P w K mg base CX0 1 (a 16) (fd 16) ["self"] (spM0 K C fun t => .bool (decide ((lv t).length = (mem t).length))) := by
  refine T.F_Tree_is_plain.ok sc_Tree_is_plain (fun vs H Q E h => spM_len (fun _ => rfl) h) (fun cdv A outer s H vs Q E hr h => ?_)
  obtain ⟨S, t, x, y, us, rfl, kn, ⟨dx, v1, v2, v3, hx, d1, d2, d3⟩, ok, ⟨⟩, -, q⟩ := h
  refine ⟨_, (pss_one (ps_ret (pe_cmpR op_eq (pe_callB (k_len (K := K)) (by rfl) T.z_len (by decide +kernel) (pa_cons (k_fld (K := K) (pv 0) rfl) pa_nil)) (pe_callB (k_len (K := K)) (by rfl) T.z_len (by decide +kernel) (pa_cons (k_fld (K := K) (pv 0) rfl) pa_nil)) (nomark _)))), ?_⟩
  refine s_ret (t_op (t_cb1 (t_fld (t_var rfl ⟨x, C, dx, _, v2, rfl, (off_some hx).2, U.cls, U.n_leaves, rfl, len_d off_sub d2 rfl ?_⟩))))
  refine t_cb1 (t_fld (t_var rfl ⟨x, C, dx, _, v3, rfl, (off_some hx).2, U.cls, U.n_members, rfl, len_d off_sub d3 rfl ?_⟩))
  refine ⟨rfl, q _ _ (Same.refl _) (dp_bl ?_)⟩
  rw [List.length_map, List.length_map]
  exact decide_eq_decide.mpr ⟨fun h => by have := V.int.inj h; omega, fun h => by rw [h]⟩
theorem ok_Tree_members (T : Txt K mg a fd C tk) (U : TxC K mg a C) : FnOk P w K mg base CX0 1 (a 17) (fd 17) ["self"] (spM0 K C fun t => nL (mem t)) := by
  refine T.F_Tree_members.ok sc_Tree_members (fun vs H Q E h => spM_len (fun _ => rfl) h) (fun cdv A outer s H vs Q E hr h => ?_)
  obtain ⟨S, t, x, y, us, rfl, kn, ⟨dx, v1, v2, v3, hx, d1, d2, d3⟩, ok, ⟨⟩, -, q⟩ := h
  refine ⟨_, (pss_one (ps_ret (pe_callTy (k_list (K := K)) (by rfl) T.z_list (by decide +kernel) (pa_cons (k_fld (K := K) (pv 0) rfl) pa_nil)))), ?_⟩
  refine s_ret (t_cb1 (t_fld (t_var rfl ⟨x, C, dx, _, v3, rfl, (off_some hx).2, U.cls, U.n_members, rfl, list_d kn d3 rfl fun l xs hl ha h => q _ _ (same_new hl) h⟩)))
def encS (x : Bool × List Nat) : List PyData := [sq x.1 (x.2.map nD)]
theorem ok_Tree_stands (T : Txt K mg a fd C tk) (U : TxC K mg a C) : FnOk P w K mg base CX0 8 (a 18) (fd 18) ["self", "houses"] (spM K C encS (fun t x => (∀ n ∈ x.2, n < 24 ∧ n ∈ mem t) ∧ x.2.Nodup ∧ x.2.length ≤ 1000) fun t x => .bool (st x.2 t)) := by
  have G_are_houses : FnOk P w K mg base CX0 4 (a 12) (fd 12) ["members", "value"] (spAreHouses K) := ok_are_houses T
  have G_stands_in := ok_stands_in (P := P) (w := w) (base := base) T 6
  refine T.F_Tree_stands.ok sc_Tree_stands (fun vs H Q E h => spM_len (n := 1) (fun _ => rfl) h) (fun cdv A outer s H vs Q E hr h => ?_)
  obtain ⟨S, t, x, ⟨c, ns⟩, us, rfl, kn, ⟨dx, v1, v2, v3, hx, d1, d2, d3⟩, ok, hd, pre, q⟩ := h
  obtain - | ⟨hd, ⟨⟩⟩ := hd
  rename_i v
  replace hx := (off_some hx).2
  refine ⟨_, (pss_cons (ps_if (pt_not (pt_val (pe_call G_are_houses (hr.mono (by omega)) (by rfl) T.m_are_houses T.F_are_houses.kp T.b_are_houses .nil pass0 (pa_cons (k_fld (K := K) (pv 0) rfl) (pa_cons (pv 1) pa_nil)))))
        (pss_one ps_never) pss_nil)
      (pss_one (ps_ret (pe_call G_stands_in (hr.mono (by omega)) (by rfl) T.m_stands_in T.F_stands_in.kp T.b_stands_in .nil pass0 (pa_cons (k_fld (K := K) (pv 0) rfl) (pa_cons (pv 1) pa_nil)))))), ?_⟩
  refine s_seq (s_if (b_not (b_val (t_call2 (t_fld (t_var rfl ⟨x, C, dx, _, v3, rfl, hx, U.cls, U.n_members, rfl, ?_⟩))))))
  refine t_var rfl (spP_bl off_sub (mem t, c, ns) (.cons d3 (.cons hd .nil)) pre rfl fun H1 s1 => ⟨_, rfl, ifF rfl (s_next ?_)⟩)
  refine s_ret (t_call2 (t_fld (t_var rfl ⟨x, C, dx, _, v1, rfl, s1 _ _ hx, U.cls, U.n_shape, rfl, ?_⟩)))
  refine t_var rfl (spP_bl (off_sub.trans s1) (flg true t, c, ns) (.cons d1 (.cons hd .nil)) (preOf (okt_flg ok)) rfl fun H2 s2 => q _ _ (s1.trans s2) (dp_bl ?_))
  exact st_flg true ns t
theorem ok_Tree_len (T : Txt K mg a fd C tk) (U : TxC K mg a C) : FnOk P w K mg base CX0 1 (a 19) (fd 19) ["self"] (spM0 K C fun t => nD (lv t).length) := by
  refine T.F_Tree_len.ok sc_Tree_len (fun vs H Q E h => spM_len (fun _ => rfl) h) (fun cdv A outer s H vs Q E hr h => ?_)
  obtain ⟨S, t, x, y, us, rfl, kn, ⟨dx, v1, v2, v3, hx, d1, d2, d3⟩, ok, ⟨⟩, -, q⟩ := h
  refine ⟨_, (pss_one (ps_ret (pe_callB (k_len (K := K)) (by rfl) T.z_len (by decide +kernel) (pa_cons (k_fld (K := K) (pv 0) rfl) pa_nil)))), ?_⟩
  refine s_ret (t_cb1 (t_fld (t_var rfl ⟨x, C, dx, _, v2, rfl, (off_some hx).2, U.cls, U.n_leaves, rfl, len_d off_sub d2 rfl (q _ _ (Same.refl _) (dp_int ?_))⟩)))
  rw [List.length_map]
def inT (t : Kh.T) (d : PyData) : Bool := match d with | .int i => decide (0 ≤ i ∧ i.toNat ∈ mem t) | _ => false
theorem ok_Tree_contains (T : Txt K mg a fd C tk) (U : TxC K mg a C) : FnOk P w K mg base CX0 4 (a 20) (fd 20) ["self", "x"] (spM K C d1 (fun _ _ => True) fun t d => .bool (inT t d)) := by
  have G_is_number_below : FnOk P w K mg base CX0 3 (a 3) (fd 3) ["value", "many"] (spBelow K) := ok_is_number_below T
  refine T.F_Tree_contains.ok sc_Tree_contains (fun vs H Q E h => spM_len (n := 1) (fun _ => rfl) h) (fun cdv A outer s H vs Q E hr h => ?_)
  obtain ⟨S, t, x, d, us, rfl, kn, ⟨dx, v1, v2, v3, hx, d1, d2, d3⟩, ok, hd, -, q⟩ := h
  obtain - | ⟨hd, ⟨⟩⟩ := hd
  rename_i v
  replace hx := (off_some hx).2
  refine ⟨_, (pss_one (ps_ret (pe_and (pe_call G_is_number_below (hr.mono (by omega)) (by rfl) T.m_is_number_below T.F_is_number_below.kp T.b_is_number_below .nil pass0 (pa_cons (pv 1) (pa_cons (pe_glob (v := .int 24) (by rfl) T.m_HOUSES ⟨_, rfl⟩) pa_nil))) (pe_one (pe_cmpR (k_in (K := K)) (pv 1) (k_fld (K := K) (pv 0) rfl) (by rfl)))))), ?_⟩
  refine s_ret (t_andV (t_call2 (t_var rfl (t_c (spP_bl off_sub (d, (24 : Int)) (.cons hd (.cons (.int 24) .nil)) trivial rfl fun H1 s1 => bl_if (fun c => ?_) (fun c => ?_))))))
  · cases d with
    | int i =>
      cases hd
      refine t_op (t_var rfl (t_fld (t_var rfl ⟨x, C, dx, _, v3, rfl, s1 _ _ hx, U.cls, U.n_members, rfl, ?_⟩)))
      refine in_d (ns := (mem t).map fun m : Nat => ((m : Nat) : Int)) (off_sub.trans s1) d3 (by rw [← nD_map]; rfl) (q _ _ s1 (dp_bl ?_))
      show decide (i ∈ (mem t).map fun m : Nat => ((m : Nat) : Int)) = decide (0 ≤ i ∧ i.toNat ∈ mem t)
      refine decide_eq_decide.mpr ⟨fun h => ?_, fun h => ?_⟩
      · obtain ⟨m, hm, rfl⟩ := List.mem_map.mp h
        exact ⟨by omega, by simpa using hm⟩
      · exact List.mem_map.mpr ⟨i.toNat, h.2, by omega⟩
    | _ => cases c
  · refine q _ _ s1 (dp_bl ?_)
    cases d <;> first | rfl | skip
    rename_i i
    symm
    refine decide_eq_false fun h => ?_
    have h2 : i.toNat < 24 := by
      have := h.2
      unfold mem at this
      exact List.mem_range.mp (List.mem_filter.mp this).1
    have c' : (decide (0 ≤ i) && decide (i < 24)) = false := c
    rw [decide_eq_true h.1, decide_eq_true (show i < 24 by omega)] at c'
    cases c'
end
end K31

set_option maxRecDepth 100000
set_option maxHeartbeats 4000000
namespace K31
open PySem PySem.Spec PyProof.Rows L2 Kh
/-- what isinstance, == and the operators ask of the class -/
structure TxD (K : PySem.W.Frag) (C : Addr) : Prop where
  ha : PySem.W.findIn K (.ref C) "__class__" = some (some (.builtin "object.__class__"))
  hn : PySem.W.specialIn K (.builtin "object.__class__") "__get__" = some (some (.builtin "getset_descriptor.__get__"))
  htk : PySem.W.takesIn K (.builtin "object.__class__") = some true
  hm : PySem.W.mroIn K C (.type "object") = some true
  own : PySem.W.kitOne K (.ref C) (.ref C) = some true
  oth : ∀ n ∈ ["NoneType", "bool", "int", "str", "list", "tuple"], PySem.W.kitOne K (.type n) (.ref C) = some false
  nf : ∀ n ∈ ["NoneType", "bool", "int", "str", "list", "tuple"], PySem.W.notFirst K C (.type n) = true
  sf : PySem.W.selfFirst K C = true
  ne : PySem.W.findIn K (.ref C) "__ne__" = some (some (.builtin "object.__ne__"))
  ob : PySem.W.subIn K (.ref C) (.type "object") = some true
theorem lv_con : ∀ t, lv (con t) = lv t := Kh.T.ind (fun n => by rw [con_leaf]) fun b k ps ih => by
  rw [con_gate, lv_gate, lv_gate, List.flatMap_map]
  induction ps with
  | nil => rfl
  | cons p r ih2 => rw [List.flatMap_cons, List.flatMap_cons, ih p List.mem_cons_self, ih2 fun q h => ih q (List.mem_cons_of_mem _ h)]
theorem wf_con : ∀ t, Wf t → Wf (con t) := Kh.T.ind (fun n h => by rw [con_leaf]; exact h) fun b k ps ih h => by
  obtain ⟨h1, h2, h3⟩ := (wf_gate b k ps).mp h
  rw [con_gate, wf_gate, List.length_map]
  refine ⟨by omega, by omega, fun p hp => ?_⟩
  obtain ⟨q, hq, rfl⟩ := List.mem_map.mp hp
  exact ih q hq (h3 q hq)
theorem dep_con : ∀ t d, dep t ≤ d → dep (con t) ≤ d := Kh.T.ind (fun n d h => by rw [con_leaf]; exact h) fun b k ps ih d h => by
  rw [con_gate]
  cases d with
  | zero => exact absurd h (dep_gate0 _ _ _)
  | succ d =>
    rw [dep_gate] at h ⊢
    intro p hp
    obtain ⟨q, hq, rfl⟩ := List.mem_map.mp hp
    exact ih q hq d (h q hq)
theorem mem_con (t : Kh.T) : mem (con t) = mem t := by unfold mem; rw [lv_con]
theorem okt_con {t : Kh.T} (h : Okt t) : Okt (con t) := ⟨wf_con t h.1, by rw [lv_con]; exact h.2.1, dep_con t 5 h.2.2.1, by rw [lv_con, mem_con]; exact h.2.2.2⟩
theorem TreeAt.eqv {K : PySem.W.Frag} {C : Addr} {H : Hp} {t u : Kh.T} {x : Addr} (h : TreeAt K C H t x) (e : flg true t = flg true u) : TreeAt K C H u x := by
  obtain ⟨dx, v1, v2, v3, h0, h1, h2, h3⟩ := h
  have e2 : lv t = lv u := by rw [← lv_flg true t, ← lv_flg true u, e]
  refine ⟨dx, v1, v2, v3, h0, ?_, ?_, ?_⟩
  · rw [← e]; exact h1
  · rw [← e2]; exact h2
  · rw [show mem u = mem t by unfold mem; rw [e2]]; exact h3
theorem nice_of {t : Kh.T} (h : Okt t) : Nice 50000 10 (tD t) := by
  have h0 := h.2.1
  have hl : ∀ t, Wf t → ∀ n ∈ lv t, n < 24 := Kh.T.ind (fun n wf m hm => by rw [lv_leaf] at hm; rw [List.mem_singleton.mp hm]; rw [Wf] at wf; exact wf) fun b k ps ih wf m hm => by
    rw [lv_gate] at hm
    obtain ⟨p, hp, hm⟩ := List.mem_flatMap.mp hm
    exact ih p hp (((wf_gate b k ps).mp wf).2.2 p hp) m hm
  have h1 := siz_le t 5 h.1 h.2.2.1
  exact (nice_tree t 5 h.1 (hl t h.1) h.2.2.1 (by omega)).mono (by omega) (Nat.le_refl _)
section
variable {P : Program} {w : World} {K : PySem.W.Frag} {mg : Str → Option Value} {base : Heap} {a : Nat → Addr} {fd : Nat → FuncData} {C : Addr} {tk : Nat → Tok}
theorem isI_at {H : Hp} {S : Addr → Prop} {t : Kh.T} {x : Addr} (h : TreeAt K C (off S H) t x) : isI H C (.ref x) := by
  obtain ⟨dx, v1, v2, v3, h0, _⟩ := h
  exact ⟨x, dx, _, rfl, (off_some h0).2⟩
/-- a method of a tree whose answer is a tree -/
def spMT {α : Type} (K : PySem.W.Frag) (C : Addr) (enc : α → List PyData) (pre : Kh.T → α → Prop) (g : Kh.T → α → Kh.T) : Sp := fun vs H Q _ => ∃ (S : Addr → Prop) (t : Kh.T) (x : Addr) (y : α) (us : List V), vs = .ref x :: us ∧ Kn S H ∧ TreeAt K C (off S H) t x ∧ Okt t ∧ DpAll K (off S H) us (enc y) ∧ pre t y ∧
  ∀ z H', Same H H' → TreeAt K C (off S H') (g t y) z → Q (.ref z) H'
abbrev spInv (K : PySem.W.Frag) (C : Addr) : Sp := spMT K C (fun _ : Unit => []) (fun _ _ => True) (fun t _ => con t)
/-- of two trees -/
def spTT (K : PySem.W.Frag) (C : Addr) (k : Nat) : Sp := fun vs H Q _ => ∃ (S : Addr → Prop) (t u : Kh.T) (x y : Addr), vs = [.ref x, .ref y] ∧ Kn S H ∧ TreeAt K C (off S H) t x ∧ TreeAt K C (off S H) u y ∧ Okt t ∧ Okt u ∧ Okt (.gate false k [t, u]) ∧
  ∀ z H', Same H H' → TreeAt K C (off S H') (.gate false k [t, u]) z → Q (.ref z) H'
/-- a tree and anything -/
def spEqT (K : PySem.W.Frag) (C : Addr) : Sp := fun vs H Q _ => ∃ (S : Addr → Prop) (t : Kh.T) (x : Addr) (y : V), vs = [.ref x, y] ∧ Kn S H ∧ TreeAt K C (off S H) t x ∧ Okt t ∧
  ((∃ u z, y = .ref z ∧ TreeAt K C (off S H) u z ∧ Okt u ∧ ∀ H', Same H H' → Q (.bl (sameT (flg true t) (flg true u))) H') ∨ (∃ d, Dp K (off S H) y d ∧ ∀ H', Same H H' → Q (.bl false) H'))
theorem ok_Tree_invert (T : Txt K mg a fd C tk) (U : TxC K mg a C) : FnOk P w K mg base CX0 10 (a 21) (fd 21) ["self"] (spInv K C) := by
  have G_contrary := ok_contrary (P := P) (w := w) (base := base) T 6
  have G_Tree_init := ok_Tree_init (P := P) (w := w) (base := base) T U
  refine T.F_Tree_invert.ok sc_Tree_invert (fun vs H Q E h => by obtain ⟨_, _, _, _, us, rfl, _, _, _, hd, _⟩ := h; have := dpa_len hd; simp at this; simp [this]) (fun cdv A outer s H vs Q E hr h => ?_)
  obtain ⟨S, t, x, y, us, rfl, kn, ⟨dx, v1, v2, v3, hx, d1, d2, d3⟩, ok, ⟨⟩, -, q⟩ := h
  refine ⟨_, (pss_one (ps_ret (pe_make U.M_Tree G_Tree_init (hr.mono (by omega)) (by rfl) U.m_Tree T.b_Tree_init .nil pass0 (pa_cons (pe_call G_contrary (hr.mono (by omega)) (by rfl) T.m_contrary T.F_contrary.kp T.b_contrary .nil pass0 (pa_cons (k_fld (K := K) (pv 0) rfl) pa_nil)) pa_nil)))), ?_⟩
  refine s_ret (mk_tree (con t) (okt_con ok) kn (fun Q q => ?_) fun z H' s h => q z H' s h)
  refine t_call1 (t_fld (t_var rfl ⟨x, C, dx, _, v1, rfl, (off_some hx).2, U.cls, U.n_shape, rfl, S, flg true t, kn, .cons d1 .nil, preOf (okt_flg ok), fun v H' s h => q v H' s ?_⟩))
  replace h : Dp K (off S H') v (tD (con (flg true t))) := h
  rw [con_flg] at h; exact h
theorem okt_of_flg {t : Kh.T} (c : Bool) (h : Okt (flg c t)) : Okt t := ⟨(wf_flg c t).mp h.1, by have := h.2.1; rwa [lv_flg] at this, (dep_flg c t 5).mp h.2.2.1, by have := h.2.2.2; rwa [lv_flg, mem_flg] at this⟩
theorem isi_own {S : Addr → Prop} {H : Hp} {t : Kh.T} {x : Addr} {Q : VK} (U : TxC K mg a C) (D : TxD K C) (h : TreeAt K C (off S H) t x) (q : Q (.bl true) H) : rIsi K [.ref x, .ref C] H Q := by
  obtain ⟨dx, v1, v2, v3, hx, _⟩ := h
  exact ⟨_, _, .ref C, .ref C, true, rfl, .own C, .base (.ins (off_some hx).2 U.cls D.ha D.hn D.htk D.hm), D.own, q⟩
theorem ty_in : ∀ {d : PyData} {K : PySem.W.Frag} {H : Hp} {v : V}, Dp K H v d → tyN d ∈ ["NoneType", "bool", "int", "str", "list", "tuple"]
  | .none, _, _, _, _ => by simp [tyN]
  | .bool _, _, _, _, _ => by simp [tyN]
  | .int _, _, _, _, _ => by simp [tyN]
  | .str _, _, _, _, _ => by simp [tyN]
  | .list _, _, _, _, _ => by simp [tyN]
  | .tuple _, _, _, _, _ => by simp [tyN]
  | .dict _, _, _, _, h => by cases h
theorem isi_oth {S : Addr → Prop} {H : Hp} {d : PyData} {v : V} {Q : VK} (D : TxD K C) (h : Dp K (off S H) v d) (q : Q (.bl false) H) : rIsi K [v, .ref C] H Q :=
  ⟨_, _, _, .ref C, false, rfl, .own C, tyx_d (dp_same off_sub _ _ h), D.oth _ (ty_in h), q⟩
/-- the object's shape -/
theorem fld_shape {S : Addr → Prop} {σ : L2.St} {H : Hp} {t : Kh.T} {x : Addr} {i : Nat} {Q : VK} (U : TxC K mg a C) (h : TreeAt K C (off S H) t x) (hi : σ[i]? = some (some (.ref x))) (q : ∀ v, Dp K (off S H) v (tD (flg true t)) → Q v H) : tFld K (tVar i) "_shape" σ H Q := by
  obtain ⟨dx, v1, v2, v3, hx, d1, _⟩ := h
  exact t_fld (t_var hi ⟨x, C, dx, _, v1, rfl, (off_some hx).2, U.cls, U.n_shape, rfl, q v1 d1⟩)
theorem shape_two {S : Addr → Prop} {σ : L2.St} {H : Hp} {t u : Kh.T} {x y : Addr} {k : Nat} {Q : VK} (U : TxC K mg a C) (kn : Kn S H) (h1 : TreeAt K C (off S H) t x) (h2 : TreeAt K C (off S H) u y) (i1 : σ[0]? = some (some (.ref x))) (i2 : σ[1]? = some (some (.ref y)))
    (q : ∀ v H', Same H H' → Dp K (off S H') v (tD (.gate false k [flg true t, flg true u])) → Q v H') :
    tTup (tCons (tC (.str "of")) (tCons (tC (.int (k : Nat))) (tCons (tLst (tCons (tFld K (tVar 0) "_shape") (tCons (tFld K (tVar 1) "_shape") tNil))) tNil))) σ H Q := by
  refine t_tup (a_cons (t_c (a_cons (t_c (a_cons (t_lst (a_cons (fld_shape U h1 i1 fun v1 d1 => a_cons (fld_shape U h2 i2 fun v2 d2 => ⟨le2, fun p hp => ?_⟩)))))))))
  have sp := same_new (o := HO.lst [v1, v2]) hp
  have dl := dp_newL kn hp (.cons d1 (.cons d2 .nil))
  refine ⟨le3, fun r hr => q _ _ (sp.trans (same_new hr)) ?_⟩
  rw [tD_gate]
  exact dp_newT (kn.same sp) hr (.cons (.str _) (.cons (.int _) (.cons dl .nil)))
theorem flg2 (t u : Kh.T) (k : Nat) : flg true (.gate false k [flg true t, flg true u]) = flg true (.gate false k [t, u]) := by
  rw [flg_gate, flg_gate]; simp [flg_flg]
theorem ok_Tree_and (T : Txt K mg a fd C tk) (U : TxC K mg a C) (D : TxD K C) : FnOk P w K mg base CX0 10 (a 22) (fd 22) ["self", "other"] (spTT K C 2) := by
  have G_Tree_init := ok_Tree_init (P := P) (w := w) (base := base) T U
  refine T.F_Tree_and.ok sc_Tree_and (fun vs H Q E h => by obtain ⟨_, _, _, _, _, rfl, _⟩ := h; rfl) (fun cdv A outer s H vs Q E hr h => ?_)
  obtain ⟨S, t, u, x, y, rfl, kn, ht, hu, ot, ou, og, q⟩ := h
  refine ⟨_, (pss_cons (ps_if (pt_not (pt_val (pe_callB (k_isi (K := K)) (by rfl) T.z_isinstance (by decide +kernel) (pa_cons (pv 1) (pa_cons (pe_glob (v := .ref _) (by rfl) U.m_Tree rfl) pa_nil)))))
        (pss_one ps_never) pss_nil)
      (pss_one (ps_ret (pe_make U.M_Tree G_Tree_init (hr.mono (by omega)) (by rfl) U.m_Tree T.b_Tree_init .nil pass0 (pa_cons (pe_tup (pa_cons pe_str (pa_cons pe_int (pa_cons (pe_lst (pa_cons (k_fld (K := K) (pv 0) rfl) (pa_cons (k_fld (K := K) (pv 1) rfl) pa_nil))) pa_nil)))) pa_nil))))), ?_⟩
  refine s_seq (s_if (b_not (b_val (t_cb2 (t_var rfl (t_c (isi_own U D hu ⟨_, rfl, ifF rfl (s_next ?_)⟩)))))))
  refine s_ret (mk_tree (.gate false 2 [flg true t, flg true u]) ?_ kn (fun Q q => shape_two U kn ht hu rfl rfl q) fun z H' s h => q z H' s (h.eqv (flg2 t u 2)))
  refine okt_of_flg true ?_
  rw [flg2]; exact okt_flg og
theorem ok_Tree_or (T : Txt K mg a fd C tk) (U : TxC K mg a C) (D : TxD K C) : FnOk P w K mg base CX0 10 (a 23) (fd 23) ["self", "other"] (spTT K C 1) := by
  have G_Tree_init := ok_Tree_init (P := P) (w := w) (base := base) T U
  refine T.F_Tree_or.ok sc_Tree_or (fun vs H Q E h => by obtain ⟨_, _, _, _, _, rfl, _⟩ := h; rfl) (fun cdv A outer s H vs Q E hr h => ?_)
  obtain ⟨S, t, u, x, y, rfl, kn, ht, hu, ot, ou, og, q⟩ := h
  refine ⟨_, (pss_cons (ps_if (pt_not (pt_val (pe_callB (k_isi (K := K)) (by rfl) T.z_isinstance (by decide +kernel) (pa_cons (pv 1) (pa_cons (pe_glob (v := .ref _) (by rfl) U.m_Tree rfl) pa_nil)))))
        (pss_one ps_never) pss_nil)
      (pss_one (ps_ret (pe_make U.M_Tree G_Tree_init (hr.mono (by omega)) (by rfl) U.m_Tree T.b_Tree_init .nil pass0 (pa_cons (pe_tup (pa_cons pe_str (pa_cons pe_int (pa_cons (pe_lst (pa_cons (k_fld (K := K) (pv 0) rfl) (pa_cons (k_fld (K := K) (pv 1) rfl) pa_nil))) pa_nil)))) pa_nil))))), ?_⟩
  refine s_seq (s_if (b_not (b_val (t_cb2 (t_var rfl (t_c (isi_own U D hu ⟨_, rfl, ifF rfl (s_next ?_)⟩)))))))
  refine s_ret (mk_tree (.gate false 1 [flg true t, flg true u]) ?_ kn (fun Q q => shape_two U kn ht hu rfl rfl q) fun z H' s h => q z H' s (h.eqv (flg2 t u 1)))
  refine okt_of_flg true ?_
  rw [flg2]; exact okt_flg og
theorem ok_Tree_eq (T : Txt K mg a fd C tk) (U : TxC K mg a C) (D : TxD K C) : FnOk P w K mg base CX0 2 (a 24) (fd 24) ["self", "other"] (spEqT K C) := by
  refine T.F_Tree_eq.ok sc_Tree_eq (fun vs H Q E h => by obtain ⟨_, _, _, _, rfl, _⟩ := h; rfl) (fun cdv A outer s H vs Q E hr h => ?_)
  obtain ⟨S, t, x, y, rfl, kn, ht, ot, h⟩ := h
  refine ⟨_, (pss_one (ps_ret (pe_and (pe_callB (k_isi (K := K)) (by rfl) T.z_isinstance (by decide +kernel) (pa_cons (pv 1) (pa_cons (pe_glob (v := .ref _) (by rfl) U.m_Tree rfl) pa_nil))) (pe_one (pe_cmpR (k_eqD (K := K) hr.units) (k_fld (K := K) (pv 0) rfl) (k_fld (K := K) (pv 1) rfl) (nomark _)))))), ?_⟩
  rcases h with ⟨u, z, rfl, hu, ou, q⟩ | ⟨d, hd, q⟩
  · refine s_ret (t_andV (t_cb2 (t_var rfl (t_c (isi_own U D hu (bl_ifT ?_))))))
    refine t_op (fld_shape U ht rfl fun v1 d1 => fld_shape U hu rfl fun v2 d2 => ⟨_, _, dp_same off_sub _ _ d1, dp_same off_sub _ _ d2, (nice_of (okt_flg ot)).shaped (by decide), (nice_of (okt_flg ou)).shaped (by decide), ?_⟩)
    rw [eqv_sameT]
    exact q H (Same.refl _)
  · exact s_ret (t_andV (t_cb2 (t_var rfl (t_c (isi_oth D hd (bl_ifF (q H (Same.refl _))))))))
end
end K31

set_option maxRecDepth 100000
set_option maxHeartbeats 4000000
namespace K31
open PySem PySem.Spec PyProof.Rows L2 Kh
section
variable {P : Program} {w : World} {K : PySem.W.Frag} {mg : Str → Option Value} {base : Heap} {a : Nat → Addr} {fd : Nat → FuncData} {C : Addr} {tk : Nat → Tok}
theorem off_sb {S : Addr → Prop} {D : Addr} {H H' : Hp} (e : SameBut D H H') : Same (off (plus S D) H) H' := fun c o h => e c o (fun z => (off_some h).1 (.inr z)) (off_some h).2
theorem isTup_leaf {σ : L2.St} {K : PySem.W.Frag} {S : Addr → Prop} {H : Hp} {v : V} {n : Nat} {Q : VK} (hd : Dp K (off S H) v (tD (.leaf n))) (q : Q (.bl false) H) : rIsi K [v, .ty "tuple"] H Q := by
  rw [tD_leaf] at hd
  exact isi_d off_sub hd (kit_tup _) q
theorem isTup_gate {σ : L2.St} {K : PySem.W.Frag} {S : Addr → Prop} {H : Hp} {v : V} {b : Bool} {k : Nat} {ps : List Kh.T} {Q : VK} (hd : Dp K (off S H) v (tD (.gate b k ps))) (q : Q (.bl true) H) : rIsi K [v, .ty "tuple"] H Q := by
  rw [tD_gate] at hd
  exact isi_d off_sub hd (kit_tup _) q
theorem ok__law_leaves (T : Txt K mg a fd C tk) : ∀ d, FnOk P w K mg base CX0 (d + 1) (a 35) (fd 35) ["_law_sketch"] (spLeaves K d)
  | 0 => fn_none fun _ _ _ _ => pre0
  | d + 1 => by
    have G__law_leaves := ok__law_leaves T d
    refine T.F__law_leaves.ok sc__law_leaves (fun vs H Q E h => spP_len (fun _ => rfl) h) (fun cdv A outer s H vs Q E hr h => ?_)
    obtain ⟨S, t, kn, hd, ⟨sm, dp⟩, q⟩ := h
    replace q : ∀ v H', Same H H' → Dp K (off S H') v (.list ((lv t).map nD)) → Q v H' := q
    obtain - | ⟨hd, ⟨⟩⟩ := hd
    rename_i v
    refine ⟨_, (pss_cons (ps_if (pt_not (pt_val (pe_callB (k_isi (K := K)) (by rfl) T.z_isinstance (by decide +kernel) (pa_cons (pv 0) (pa_cons (pe_bltn (v := .ty "tuple") (by rfl) T.z_tuple (by decide +kernel) rfl) pa_nil)))))
        (pss_one (ps_ret (pe_lst (pa_cons (pv 0) pa_nil)))) pss_nil)
      (pss_cons (ps_set (i := 1) sc__law_leaves.nd rfl (Or.inl rfl) (pe_lst pa_nil))
      (pss_cons (ps_for PassesOwn.never rfl (k_pi (K := K) (pe_ix (k_ix (K := K)) (pv 0) pe_int (fun _ _ => rfl))) (pg_name (i := 2) sc__law_leaves.nd rfl (Or.inl rfl))
        (pss_one (ps_expr (pe_bm PySem.F.plainAttrs_list PySem.F.slot_list_extend PySem.F.type_list_extend (k_ext (K := K)) (pv 1) (pa_cons (pe_call G__law_leaves (hr.mono (by omega)) (by rfl) T.m__law_leaves T.F__law_leaves.kp T.b__law_leaves .nil pass0 (pa_cons (pv 2) pa_nil)) pa_nil)))))
      (pss_one (ps_ret (pv 1)))))), ?_⟩
    cases t with
    | leaf n =>
      rw [lv_leaf] at q
      refine s_seq (s_if (b_not (b_val (t_cb2 (t_var rfl (t_c (isTup_leaf (σ := []) hd ⟨_, rfl, ifT rfl ?_⟩)))))))
      rw [tD_leaf] at hd
      exact s_ret (t_lst (a_cons (t_var rfl ⟨le1, fun p hp => q _ _ (same_new hp) (dp_newL kn hp (.cons hd .nil))⟩)))
    | gate b k ps =>
      rw [lv_gate] at q
      refine s_seq (s_if (b_not (b_val (t_cb2 (t_var rfl (t_c (isTup_gate (σ := []) hd ⟨_, rfl, ifF rfl (s_next ?_)⟩)))))))
      rw [tD_gate] at hd
      refine s_seq (s_set (t_lst0 fun D hD => ?_))
      have s0 := same_new (o := HO.lst []) hD
      have kn0 : Kn (plus S D) (upd H D (.lst [])) := (kn.same s0).plus (some_ne (upd_same (o := HO.lst [])))
      have hd0 := dp_same (off_plus hD s0) _ _ hd
      have hU : (upd H D (.lst [])) D = some (.lst []) := upd_same
      generalize hH : upd H D (.lst []) = H0 at *
      refine s_seq (s_for (S := plus S D) (b := b) (ds := ps.map tD) kn0 (fun Q q => t_op (t_var rfl (t_c (ix_d (i := 2) off_sub hd0 rfl rfl fun u du => q u _ (Same.refl _) du)))) fun xs H1 s1 kn1 ha hl => ?_)
      refine ⟨fun i σ' H' => ∃ vs x2, σ' = [some v, some (.ref D), x2] ∧ H' D = some (.lst vs) ∧ DpAll K (off (plus S D) H') vs (((ps.take i).flatMap lv).map nD) ∧ SameBut D H1 H', ⟨[], _, rfl, s1 _ _ hU, .nil, sbut (Same.refl _)⟩, fun i σ' H' _ ⟨_, _, _, _, _, sb⟩ => off_sb sb, ?_, ?_⟩
      · rintro i x dd σ' H' di dx ⟨vs, x2, rfl, hv, dv, sb⟩
        obtain ⟨p, pj, pm, rfl⟩ := at_ps di
        have knH : Kn (plus S D) H' := fun c z => by
          by_cases e : c = D
          · subst e; exact some_ne hv
          · cases h : H1 c with
            | none => exact (kn1 c z h).elim
            | some o => rw [sb c o e h]; exact fun z => nomatch z
        refine g_name (s_drop (t_bm (t_var rfl ⟨.inl ⟨rfl, _, sqL hv⟩, a_cons (t_call1 (t_var rfl ⟨plus S D, p, knH, .cons (dp_same (off_but sb) _ _ dx) .nil, ⟨sm.parts p pm, dep_lt dp p pm⟩, fun u H2 s2 du => ?_⟩))⟩)))
        obtain ⟨z, zs, rfl, hz, dz⟩ := list_at (ds := (lv p).map nD) du
        have l1 := dpa_len dv
        have l2 := dpa_len dz
        rw [List.length_map] at l1 l2
        have tot : ((ps.take i).flatMap lv).length + (lv p).length ≤ (ps.flatMap lv).length := by
          have e : ps.take (i + 1) = ps.take i ++ [p] := by rw [List.take_add_one, pj]; rfl
          have := flat_take_le ps (i + 1)
          rw [e, List.flatMap_append, List.length_append] at this
          simpa using this
        have h1000 := sm.2
        rw [lv_gate] at h1000
        refine ⟨D, z, vs, zs, rfl, rfl, s2 _ _ hv, .inl (off_sub.seq hz), Nat.le_trans (show vs.length + zs.length ≤ 100000 by omega) (by decide), vs ++ zs, _, rfl, upd_same, ?_, bmut (fun c o n h => s2 c o (sb c o n h))⟩
        rw [off_mut (show plus S D D from .inr rfl), List.take_add_one, pj, List.flatMap_append, List.map_append]
        refine dpa_app (dpa_same (off_same s2) _ _ dv) ?_
        show DpAll K (off (plus S D) H2) zs (([p].flatMap lv).map nD)
        simpa using dz
      · rintro σ' H' ⟨vs, x2, rfl, hv, dv, sb⟩
        rw [List.length_map, List.take_length] at dv
        refine nx_of (s_ret (t_var rfl (q _ H' ?_ (dp_lst (kn.new hD) hv (dpa_same off_fin _ _ dv)))))
        exact fun c o h => sb c o (ne_of_none h hD) (s1 c o (s0 c o h))
end
end K31

set_option maxRecDepth 100000
set_option maxHeartbeats 4000000
namespace K31
open PySem PySem.Spec PyProof.Rows L2 Kh
theorem lv24 : ∀ t, Wf t → ∀ n ∈ lv t, n < 24 := Kh.T.ind (fun n wf m hm => by rw [lv_leaf] at hm; rw [List.mem_singleton.mp hm]; rw [Wf] at wf; exact wf) fun b k ps ih wf m hm => by
  rw [lv_gate] at hm
  obtain ⟨p, hp, hm⟩ := List.mem_flatMap.mp hm
  exact ih p hp (((wf_gate b k ps).mp wf).2.2 p hp) m hm
theorem mem_iff {t : Kh.T} (h : Wf t) (n : Nat) : n ∈ mem t ↔ n ∈ lv t := by
  unfold mem
  rw [List.mem_filter, List.mem_range]
  exact ⟨fun q => of_decide_eq_true q.2, fun q => ⟨lv24 t h n q, decide_eq_true q⟩⟩
theorem rise_nat : ∀ {l : List Nat}, l.Pairwise (· < ·) → (l.map fun n : Nat => ((n : Nat) : Int)).Pairwise (· < ·) := fun h => List.pairwise_map.mpr (h.imp fun q => by omega)
theorem mem_rise (t : Kh.T) : (mem t).Pairwise (· < ·) := List.Pairwise.filter _ List.pairwise_lt_range
theorem mem_nodup (t : Kh.T) : (mem t).Nodup := (mem_rise t).imp fun h => Nat.ne_of_lt h
section
variable {P : Program} {w : World} {K : PySem.W.Frag} {mg : Str → Option Value} {base : Heap} {a : Nat → Addr} {fd : Nat → FuncData} {C : Addr} {tk : Nat → Tok}
/-- of this law's helpers: trees of at most 60 leaves -/
abbrev preL (d : Nat) (t : Kh.T) : Prop := preT d t ∧ (lv t).length ≤ 60
abbrev spHouses (K : PySem.W.Frag) (d : Nat) : Sp := spP K t1 (preL d) fun t => nL (mem t)
theorem ok__law_houses (T : Txt K mg a fd C tk) (d : Nat) : FnOk P w K mg base CX0 (d + 2) (a 36) (fd 36) ["_law_sketch"] (spHouses K d) := by
  have G__law_leaves := ok__law_leaves (P := P) (w := w) (base := base) T d
  refine T.F__law_houses.ok sc__law_houses (fun vs H Q E h => spP_len (fun _ => rfl) h) (fun cdv A outer s H vs Q E hr h => ?_)
  obtain ⟨S, t, kn, hd, ⟨pre, few⟩, q⟩ := h
  replace q : ∀ v H', Same H H' → Dp K (off S H') v (.list ((mem t).map nD)) → Q v H' := q
  obtain - | ⟨hd, ⟨⟩⟩ := hd
  rename_i v
  refine ⟨_, (pss_one (ps_ret (pe_callB (cr_sortedSet rfl) (by rfl) T.z_sorted (by decide +kernel) (pa_cons (pe_callTy (k_setOf (K := K) rfl) (by rfl) T.z_set (by decide +kernel) (pa_cons (pe_call G__law_leaves (hr.mono (by omega)) (by rfl) T.m__law_leaves T.F__law_leaves.kp T.b__law_leaves .nil pass0 (pa_cons (pv 0) pa_nil)) pa_nil)) pa_nil)))), ?_⟩
  refine s_ret (t_cb1 (t_cb1 (t_call1 (t_var rfl ⟨S, t, kn, .cons hd .nil, pre, fun u H1 s1 du => ?_⟩))))
  obtain ⟨l, xs, rfl, hs, ha⟩ := list_at (ds := (lv t).map nD) du
  have ex := dpa_ints (ns := (lv t).map fun m : Nat => ((m : Nat) : Int)) (by rw [← nD_map]; exact ha)
  subst ex
  refine ⟨l, (lv t).map fun m : Nat => ((m : Nat) : Int), rfl, off_sub.seq hs, by rw [List.length_map]; omega, fun p n hp hn => ⟨p, _, n, rfl, upd_same, by rw [List.length_map] at hn; omega, fun ns p2 hr hm hl hp2 => ?_⟩⟩
  have e : ns = (mem t).map fun m : Nat => ((m : Nat) : Int) := rise_eq hr (rise_nat (mem_rise t)) fun k => by
    rw [hm, decide_eq_true_eq, List.mem_map, List.mem_map]
    constructor
    · rintro ⟨m, h, rfl⟩; exact ⟨m, (mem_iff pre.1.1 m).mpr h, rfl⟩
    · rintro ⟨m, h, rfl⟩; exact ⟨m, (mem_iff pre.1.1 m).mp h, rfl⟩
  subst e
  have kn1 := kn.same s1
  have s2 := same_new (o := SetO w p (fun j => decide (j ∈ (lv t).map fun m : Nat => ((m : Nat) : Int))) n) hp
  refine q _ _ ((s1.trans s2).trans (same_new hp2)) (dp_newL (kn1.same s2) hp2 ?_)
  rw [nD_map]; exact ints_dpa _
abbrev spIsPlain (K : PySem.W.Frag) (d : Nat) : Sp := spP K t1 (preL d) fun t => .bool (decide ((lv t).length = (mem t).length))
theorem ok__law_is_plain (T : Txt K mg a fd C tk) (d : Nat) : FnOk P w K mg base CX0 (d + 3) (a 37) (fd 37) ["_law_sketch"] (spIsPlain K d) := by
  have G__law_leaves := ok__law_leaves (P := P) (w := w) (base := base) T d
  have G__law_houses := ok__law_houses (P := P) (w := w) (base := base) T d
  refine T.F__law_is_plain.ok sc__law_is_plain (fun vs H Q E h => spP_len (fun _ => rfl) h) (fun cdv A outer s H vs Q E hr h => ?_)
  obtain ⟨S, t, kn, hd, ⟨pre, few⟩, q⟩ := h
  obtain - | ⟨hd, ⟨⟩⟩ := hd
  rename_i v
  refine ⟨_, (pss_one (ps_ret (pe_cmpR op_eq (pe_callB (k_len (K := K)) (by rfl) T.z_len (by decide +kernel) (pa_cons (pe_call G__law_leaves (hr.mono (by omega)) (by rfl) T.m__law_leaves T.F__law_leaves.kp T.b__law_leaves .nil pass0 (pa_cons (pv 0) pa_nil)) pa_nil)) (pe_callB (k_len (K := K)) (by rfl) T.z_len (by decide +kernel) (pa_cons (pe_call G__law_houses (hr.mono (by omega)) (by rfl) T.m__law_houses T.F__law_houses.kp T.b__law_houses .nil pass0 (pa_cons (pv 0) pa_nil)) pa_nil)) (nomark _)))), ?_⟩
  refine s_ret (t_op (t_cb1 (t_call1 (t_var rfl ⟨S, t, kn, .cons hd .nil, pre, fun u H1 s1 du => len_d off_sub du rfl ?_⟩))))
  refine t_cb1 (t_call1 (t_var rfl ⟨S, t, kn.same s1, .cons (dp_same (off_same s1) _ _ hd) .nil, ⟨pre, few⟩, fun u2 H2 s2 du2 => len_d off_sub du2 rfl ⟨rfl, q _ _ (s1.trans s2) (dp_bl ?_)⟩⟩))
  rw [List.length_map, List.length_map]
  exact decide_eq_decide.mpr ⟨fun h => by have := V.int.inj h; omega, fun h => by rw [h]⟩
theorem ok__law_stands (T : Txt K mg a fd C tk) : ∀ d, FnOk P w K mg base CX0 (d + 1) (a 38) (fd 38) ["_law_sketch", "_law_some"] (spStandsIn K d)
  | 0 => fn_none fun _ _ _ _ h => by
    obtain ⟨_, x, _, _, ⟨_, h⟩, _⟩ := h
    exact Nat.not_lt_zero _ h
  | d + 1 => by
    have G__law_stands := ok__law_stands T d
    refine T.F__law_stands.ok sc__law_stands (fun vs H Q E h => spP_len (fun _ => rfl) h) (fun cdv A outer s H vs Q E hr h => ?_)
    obtain ⟨S, ⟨t, c, ss⟩, kn, hd, ⟨sm, dp⟩, q⟩ := h
    replace q : ∀ v H', Same H H' → Dp K (off S H') v (.bool (st ss t)) → Q v H' := q
    replace sm : Sm t := sm
    replace dp : dep t < d + 1 := dp
    obtain - | ⟨hd, - | ⟨hs, ⟨⟩⟩⟩ := hd
    rename_i v vh
    replace hd : Dp K (off S H) v (tD t) := hd
    replace hs : Dp K (off S H) vh (sq c (ss.map nD)) := hs
    refine ⟨_, (pss_cons (ps_if (pt_not (pt_val (pe_callB (k_isi (K := K)) (by rfl) T.z_isinstance (by decide +kernel) (pa_cons (pv 0) (pa_cons (pe_bltn (v := .ty "tuple") (by rfl) T.z_tuple (by decide +kernel) rfl) pa_nil)))))
        (pss_one (ps_ret (pe_cmpR (k_in (K := K)) (pv 0) (pv 1) (by rfl)))) pss_nil)
      (pss_one (ps_ret (pe_cmpR op_ge (pe_callB (k_len (K := K)) (by rfl) T.z_len (by decide +kernel) (pa_cons (pe_lc (own := [("_law_part", 2)]) (g := gName 2) (tt := _) rfl sc__law_stands.nd (k_pi (K := K) (pe_ix (k_ix (K := K)) (pv 0) pe_int (fun _ _ => rfl))) (blkOk_by (own := [("_law_part", 2)]) (N := _law_stands_N) (sc := defScope _law_stands_s) (by decide +kernel)) (fun _ _ _ _ _ => (pg_name (i := 2) sc__law_stands.nd rfl (Or.inl rfl))) (fun _ _ _ _ _ => (pts_one (pt_val (pe_call G__law_stands (hr.mono (by omega)) (by rfl) T.m__law_stands T.F__law_stands.kp T.b__law_stands .nil pass0 (pa_cons (pv 2) (pa_cons (pv 1) pa_nil)))))) (fun _ _ _ _ _ => (pv 2))) pa_nil)) (pe_ix (k_ix (K := K)) (pv 0) pe_int (fun _ _ => rfl)) (nomark _))))), ?_⟩
    cases t with
    | leaf n =>
      rw [st_leaf] at q
      refine s_seq (s_if (b_not (b_val (t_cb2 (t_var rfl (t_c (isTup_leaf (σ := []) hd ⟨_, rfl, ifT rfl ?_⟩)))))))
      rw [tD_leaf] at hd
      cases hd
      refine s_ret (t_op (t_var rfl (t_var rfl (in_d (ns := ss.map fun m : Nat => ((m : Nat) : Int)) off_sub hs (by rw [items_sq, List.map_map]; rfl) (q _ _ (Same.refl _) (dp_bl ?_))))))
      exact decide_eq_decide.mpr mem_ints
    | gate b k ps =>
      rw [st_gate] at q
      refine s_seq (s_if (b_not (b_val (t_cb2 (t_var rfl (t_c (isTup_gate (σ := []) hd ⟨_, rfl, ifF rfl (s_next ?_)⟩)))))))
      rw [tD_gate] at hd
      refine s_ret (t_op (t_cb1 (lc_seqF (b := b) (ds := ps.map tD) (fun j => (ps[j]?).any (st ss)) (nth ps tD) kn (fun Q q => t_op (t_var rfl (t_c (ix_d (i := 2) off_sub hd rfl rfl fun u du => q u _ (Same.refl _) du)))) (len_ok sm) (fun _ => rfl) (fun j x d H2 S' dj s2 kn2 dx hS hoff Q q => ?_) (fun j x d H2 S' dj pj s2 kn2 dx hS hoff Q q => ?_) fun D H2 ys hD s2 hd2 h2 => ?_)))
      · obtain ⟨p, pj, pm, rfl⟩ := at_ps dj
        refine b_val (t_call2 (t_var rfl (t_var rfl ⟨S', (p, c, ss), kn2, .cons dx (.cons (dp_same hoff _ _ hs) .nil), ⟨sm.parts p pm, dep_lt dp p pm⟩, fun v H' s' h => ?_⟩)))
        replace h : Dp K (off S' H') v (.bool (st ss p)) := h
        cases h
        refine ⟨_, rfl, ?_⟩
        have e : (ps[j]?).any (st ss) = st ss p := by rw [pj]; rfl
        rw [← e]; exact q H' s'
      · obtain ⟨p, pj', pm, rfl⟩ := at_ps dj
        refine t_var rfl (q _ _ (Same.refl _) ?_)
        rw [nth_eq pj']; exact dx
      · rw [List.length_map, range_filter (p := st ss) (g := tD) fun i x e => ⟨by rw [e]; rfl, nth_eq e⟩] at h2
        refine len_d off_sub h2 rfl (t_op (t_var rfl (t_c (ix_d (i := 1) (off_sub.trans s2) hd rfl rfl fun u du => ?_))))
        cases du
        refine ⟨_, _, rfl, rfl, q _ _ s2 (dp_bl ?_)⟩
        rw [List.length_map]
        exact decide_eq_decide.mpr (by omega)
theorem ok__law_turned (T : Txt K mg a fd C tk) : ∀ d, FnOk P w K mg base CX0 (d + 1) (a 39) (fd 39) ["_law_sketch"] (spContrary K d)
  | 0 => fn_none fun _ _ _ _ => pre0
  | d + 1 => by
    have G__law_turned := ok__law_turned T d
    refine T.F__law_turned.ok sc__law_turned (fun vs H Q E h => spP_len (fun _ => rfl) h) (fun cdv A outer s H vs Q E hr h => ?_)
    obtain ⟨S, t, kn, hd, ⟨sm, dp⟩, q⟩ := h
    replace q : ∀ v H', Same H H' → Dp K (off S H') v (tD (con t)) → Q v H' := q
    obtain - | ⟨hd, ⟨⟩⟩ := hd
    rename_i v
    refine ⟨_, (pss_cons (ps_if (pt_not (pt_val (pe_callB (k_isi (K := K)) (by rfl) T.z_isinstance (by decide +kernel) (pa_cons (pv 0) (pa_cons (pe_bltn (v := .ty "tuple") (by rfl) T.z_tuple (by decide +kernel) rfl) pa_nil)))))
        (pss_one (ps_ret (pv 0))) pss_nil)
      (pss_one (ps_ret (pe_tup (pa_cons pe_str (pa_cons (pe_op op_sub (pe_op op_add (pe_callB (k_len (K := K)) (by rfl) T.z_len (by decide +kernel) (pa_cons (pe_ix (k_ix (K := K)) (pv 0) pe_int (fun _ _ => rfl)) pa_nil)) pe_int) (pe_ix (k_ix (K := K)) (pv 0) pe_int (fun _ _ => rfl))) (pa_cons (pe_lc (own := [("_law_part", 1)]) (g := gName 1) (tt := tYes) rfl sc__law_turned.nd (k_pi (K := K) (pe_ix (k_ix (K := K)) (pv 0) pe_int (fun _ _ => rfl))) (blkOk_by (own := [("_law_part", 1)]) (N := _law_turned_N) (sc := defScope _law_turned_s) (by decide +kernel)) (fun _ _ _ _ _ => (pg_name (i := 1) sc__law_turned.nd rfl (Or.inl rfl))) (fun _ _ _ _ _ => pts_nil) (fun _ _ _ _ _ => (pe_call G__law_turned (hr.mono (by omega)) (by rfl) T.m__law_turned T.F__law_turned.kp T.b__law_turned .nil pass0 (pa_cons (pv 1) pa_nil)))) pa_nil))))))), ?_⟩
    cases t with
    | leaf n =>
      rw [con_leaf] at q
      refine s_seq (s_if (b_not (b_val (t_cb2 (t_var rfl (t_c (isTup_leaf (σ := []) hd ⟨_, rfl, ifT rfl ?_⟩)))))))
      exact s_ret (t_var rfl (q _ H (Same.refl _) hd))
    | gate b k ps =>
      obtain ⟨k1, k2, _⟩ := (wf_gate b k ps).mp sm.1
      rw [con_gate, tD_gate] at q
      refine s_seq (s_if (b_not (b_val (t_cb2 (t_var rfl (t_c (isTup_gate (σ := []) hd ⟨_, rfl, ifF rfl (s_next ?_)⟩)))))))
      rw [tD_gate] at hd
      refine s_ret (t_tup (a_cons (t_c (a_cons (t_op (t_op (t_cb1 (t_op (t_var rfl (t_c (ix_d (i := 2) off_sub hd rfl rfl fun z dz => len_d off_sub dz (items_sq b _) (t_c ⟨_, _, rfl, rfl, ?_⟩)))))))))))) 
      refine t_op (t_var rfl (t_c (ix_d (i := 1) off_sub hd rfl rfl fun u du => ?_)))
      cases du
      refine ⟨_, _, rfl, rfl, a_cons (lc_seq (b := b) (ds := ps.map tD) (nth ps fun p => tD (con p)) kn (fun Q q => t_op (t_var rfl (t_c (ix_d (i := 2) off_sub hd rfl rfl fun u du => q u _ (Same.refl _) du)))) (len_ok sm) (fun _ => rfl) (fun j x d H2 S' dj s2 kn2 dx hS hoff Q q => ?_) fun D H2 ys hD s2 hd2 h2 => ?_)⟩
      · obtain ⟨p, pj, pm, rfl⟩ := at_ps dj
        refine t_call1 (t_var rfl ⟨S', p, kn2, .cons dx .nil, ⟨sm.parts p pm, dep_lt dp p pm⟩, fun v H' s' h => q v H' s' ?_⟩)
        rw [nth_eq pj]; exact h
      · rw [nth_map] at h2
        refine ⟨le3, fun p hp => q _ _ (s2.trans (same_new hp)) ?_⟩
        rw [List.map_map]
        refine dp_newT (kn.same s2) hp (.cons (.str _) (.cons (dp_int ?_) (.cons h2 .nil)))
        rw [List.length_map]; omega
theorem ok__law_tupled (T : Txt K mg a fd C tk) : ∀ d, FnOk P w K mg base CX0 (d + 1) (a 41) (fd 41) ["_law_sketch"] (spFirm K d)
  | 0 => fn_none fun _ _ _ _ => pre0
  | d + 1 => by
    have G__law_tupled := ok__law_tupled T d
    refine T.F__law_tupled.ok sc__law_tupled (fun vs H Q E h => spP_len (fun _ => rfl) h) (fun cdv A outer s H vs Q E hr h => ?_)
    obtain ⟨S, t, kn, hd, ⟨sm, dp⟩, q⟩ := h
    replace q : ∀ v H', Same H H' → Dp K (off S H') v (tD (flg true t)) → Q v H' := q
    obtain - | ⟨hd, ⟨⟩⟩ := hd
    rename_i v
    refine ⟨_, (pss_cons (ps_if (pt_not (pt_val (pe_callB (k_isi (K := K)) (by rfl) T.z_isinstance (by decide +kernel) (pa_cons (pv 0) (pa_cons (pe_bltn (v := .ty "tuple") (by rfl) T.z_tuple (by decide +kernel) rfl) pa_nil)))))
        (pss_one (ps_ret (pv 0))) pss_nil)
      (pss_one (ps_ret (pe_tup (pa_cons pe_str (pa_cons (pe_ix (k_ix (K := K)) (pv 0) pe_int (fun _ _ => rfl)) (pa_cons (pe_callTy (k_tup (K := K)) (by rfl) T.z_tuple (by decide +kernel) (pa_cons (pe_lc (own := [("_law_part", 1)]) (g := gName 1) (tt := tYes) rfl sc__law_tupled.nd (k_pi (K := K) (pe_ix (k_ix (K := K)) (pv 0) pe_int (fun _ _ => rfl))) (blkOk_by (own := [("_law_part", 1)]) (N := _law_tupled_N) (sc := defScope _law_tupled_s) (by decide +kernel)) (fun _ _ _ _ _ => (pg_name (i := 1) sc__law_tupled.nd rfl (Or.inl rfl))) (fun _ _ _ _ _ => pts_nil) (fun _ _ _ _ _ => (pe_call G__law_tupled (hr.mono (by omega)) (by rfl) T.m__law_tupled T.F__law_tupled.kp T.b__law_tupled .nil pass0 (pa_cons (pv 1) pa_nil)))) pa_nil)) pa_nil))))))), ?_⟩
    cases t with
    | leaf n =>
      rw [flg_leaf] at q
      refine s_seq (s_if (b_not (b_val (t_cb2 (t_var rfl (t_c (isTup_leaf (σ := []) hd ⟨_, rfl, ifT rfl ?_⟩)))))))
      exact s_ret (t_var rfl (q _ H (Same.refl _) hd))
    | gate b k ps =>
      rw [flg_gate, tD_gate] at q
      refine s_seq (s_if (b_not (b_val (t_cb2 (t_var rfl (t_c (isTup_gate (σ := []) hd ⟨_, rfl, ifF rfl (s_next ?_)⟩)))))))
      rw [tD_gate] at hd
      refine s_ret (t_tup (a_cons (t_c (a_cons (t_op (t_var rfl (t_c (ix_d (i := 1) off_sub hd rfl rfl fun u du => ?_))))))))
      cases du
      refine a_cons (t_cb1 (lc_seq (b := b) (ds := ps.map tD) (nth ps fun p => tD (flg true p)) kn (fun Q q => t_op (t_var rfl (t_c (ix_d (i := 2) off_sub hd rfl rfl fun u du => q u _ (Same.refl _) du)))) (len_ok sm) (fun _ => rfl) (fun j x d H2 S' dj s2 kn2 dx hS hoff Q q => ?_) fun D H2 ys hD s2 hd2 h2 => ?_))
      · obtain ⟨p, pj, pm, rfl⟩ := at_ps dj
        refine t_call1 (t_var rfl ⟨S', p, kn2, .cons dx .nil, ⟨sm.parts p pm, dep_lt dp p pm⟩, fun v H' s' h => q v H' s' ?_⟩)
        rw [nth_eq pj]; exact h
      · rw [nth_map] at h2
        refine tup_d (kn.same s2) h2 rfl fun u H3 s3 d3 => ⟨le3, fun p hp => q _ _ ((s2.trans s3).trans (same_new hp)) ?_⟩
        rw [List.map_map]
        exact dp_newT (kn.same (s2.trans s3)) hp (.cons (.str _) (.cons (.int _) (.cons d3 .nil)))
theorem ok__law_listed (T : Txt K mg a fd C tk) : ∀ d, FnOk P w K mg base CX0 (d + 1) (a 42) (fd 42) ["_law_sketch"] (spListed K d)
  | 0 => fn_none fun _ _ _ _ => pre0
  | d + 1 => by
    have G__law_listed := ok__law_listed T d
    refine T.F__law_listed.ok sc__law_listed (fun vs H Q E h => spP_len (fun _ => rfl) h) (fun cdv A outer s H vs Q E hr h => ?_)
    obtain ⟨S, t, kn, hd, ⟨sm, dp⟩, q⟩ := h
    replace q : ∀ v H', Same H H' → Dp K (off S H') v (tD (flg false t)) → Q v H' := q
    obtain - | ⟨hd, ⟨⟩⟩ := hd
    rename_i v
    refine ⟨_, (pss_cons (ps_if (pt_not (pt_val (pe_callB (k_isi (K := K)) (by rfl) T.z_isinstance (by decide +kernel) (pa_cons (pv 0) (pa_cons (pe_bltn (v := .ty "tuple") (by rfl) T.z_tuple (by decide +kernel) rfl) pa_nil)))))
        (pss_one (ps_ret (pv 0))) pss_nil)
      (pss_one (ps_ret (pe_tup (pa_cons pe_str (pa_cons (pe_ix (k_ix (K := K)) (pv 0) pe_int (fun _ _ => rfl)) (pa_cons (pe_lc (own := [("_law_part", 1)]) (g := gName 1) (tt := tYes) rfl sc__law_listed.nd (k_pi (K := K) (pe_ix (k_ix (K := K)) (pv 0) pe_int (fun _ _ => rfl))) (blkOk_by (own := [("_law_part", 1)]) (N := _law_listed_N) (sc := defScope _law_listed_s) (by decide +kernel)) (fun _ _ _ _ _ => (pg_name (i := 1) sc__law_listed.nd rfl (Or.inl rfl))) (fun _ _ _ _ _ => pts_nil) (fun _ _ _ _ _ => (pe_call G__law_listed (hr.mono (by omega)) (by rfl) T.m__law_listed T.F__law_listed.kp T.b__law_listed .nil pass0 (pa_cons (pv 1) pa_nil)))) pa_nil))))))), ?_⟩
    cases t with
    | leaf n =>
      rw [flg_leaf] at q
      refine s_seq (s_if (b_not (b_val (t_cb2 (t_var rfl (t_c (isTup_leaf (σ := []) hd ⟨_, rfl, ifT rfl ?_⟩)))))))
      exact s_ret (t_var rfl (q _ H (Same.refl _) hd))
    | gate b k ps =>
      rw [flg_gate, tD_gate] at q
      refine s_seq (s_if (b_not (b_val (t_cb2 (t_var rfl (t_c (isTup_gate (σ := []) hd ⟨_, rfl, ifF rfl (s_next ?_)⟩)))))))
      rw [tD_gate] at hd
      refine s_ret (t_tup (a_cons (t_c (a_cons (t_op (t_var rfl (t_c (ix_d (i := 1) off_sub hd rfl rfl fun u du => ?_))))))))
      cases du
      refine a_cons (lc_seq (b := b) (ds := ps.map tD) (nth ps fun p => tD (flg false p)) kn (fun Q q => t_op (t_var rfl (t_c (ix_d (i := 2) off_sub hd rfl rfl fun u du => q u _ (Same.refl _) du)))) (len_ok sm) (fun _ => rfl) (fun j x d H2 S' dj s2 kn2 dx hS hoff Q q => ?_) fun D H2 ys hD s2 hd2 h2 => ?_)
      · obtain ⟨p, pj, pm, rfl⟩ := at_ps dj
        refine t_call1 (t_var rfl ⟨S', p, kn2, .cons dx .nil, ⟨sm.parts p pm, dep_lt dp p pm⟩, fun v H' s' h => q v H' s' ?_⟩)
        rw [nth_eq pj]; exact h
      · rw [nth_map] at h2
        refine ⟨le3, fun p hp => q _ _ (s2.trans (same_new hp)) ?_⟩
        rw [List.map_map]
        exact dp_newT (kn.same s2) hp (.cons (.str _) (.cons (.int _) (.cons h2 .nil)))
end
end K31

set_option maxRecDepth 100000
set_option maxHeartbeats 4000000
namespace K31
open PySem PySem.Spec PyProof.Rows L2 Kh
section
variable {P : Program} {w : World} {K : PySem.W.Frag} {mg : Str → Option Value} {base : Heap} {a : Nat → Addr} {fd : Nat → FuncData} {C : Addr} {tk : Nat → Tok}
theorem preN {R : Hp → V → PyData → Prop} {f : Kh.T → PyData} {vs : List V} {H : Hp} {Q : VK} {E : XK} (h : spN R K t1 (preT 0) f vs H Q E) : False := by
  obtain ⟨_, _, t, _, _, _, ⟨_, h⟩, _⟩ := h
  exact Nat.not_lt_zero _ h
/-- a new tuple of three -/
theorem np_gate {S : Addr → Prop} {H : Hp} {p l : Addr} {k : Int} {ds : List PyData} (kn : Kn S H) (hp : H p = none) (h : Np (off S H) (.ref l) (.list ds)) : Np (off S (upd H p (.tup [.str "of", .int k, .ref l]))) (.ref p) (.tuple [.str "of", .int k, .list ds]) := by
  have e := off_same (S := S) (same_new (o := HO.tup [.str "of", .int k, .ref l]) hp)
  refine .tup (by rw [off_out (kn.new hp)]; exact upd_same) rfl fun i x d h1 h2 => ?_
  match i with
  | 0 => cases h1; cases h2; exact .str _
  | 1 => cases h1; cases h2; exact .int _
  | 2 => cases h1; cases h2; exact h.same e
  | i + 3 => simp at h1
abbrev spListN (K : PySem.W.Frag) (d : Nat) : Sp := spN Np K t1 (preT d) fun t => tD (flg false t)
theorem ok_listedN (T : Txt K mg a fd C tk) : ∀ d, FnOk P w K mg base CX0 (d + 1) (a 7) (fd 7) ["shape"] (spListN K d)
  | 0 => fn_none fun _ _ _ _ => preN
  | d + 1 => by
    have G_listed := ok_listedN T d
    have G_is_integer : FnOk P w K mg base CX0 1 (a 0) (fd 0) ["value"] (spIsInteger K) := ok_is_integer T
    refine T.F_listed.ok sc_listed (fun vs H Q E h => spN_len (fun _ => rfl) h) (fun cdv A outer s H vs Q E hr h => ?_)
    obtain ⟨S, S2, t, h12, kn, hd, ⟨sm, dp⟩, q⟩ := h
    replace q : ∀ v H', Same H H' → Np (off S2 H') v (tD (flg false t)) → Q v H' := q
    obtain - | ⟨hd, ⟨⟩⟩ := hd
    rename_i v
    refine ⟨_, (pss_cons (ps_if (pt_val (pe_call G_is_integer (hr.mono (by omega)) (by rfl) T.m_is_integer T.F_is_integer.kp T.b_is_integer .nil pass0 (pa_cons (pv 0) pa_nil)))
        (pss_one (ps_ret (pv 0))) pss_nil)
      (pss_one (ps_ret (pe_tup (pa_cons pe_str (pa_cons (pe_ix (k_ix (K := K)) (pv 0) pe_int (fun _ _ => rfl)) (pa_cons (pe_lc (own := [("part", 1)]) (g := gName 1) (tt := tYes) rfl sc_listed.nd (k_pi (K := K) (pe_ix (k_ix (K := K)) (pv 0) pe_int (fun _ _ => rfl))) (blkOk_by (own := [("part", 1)]) (N := listed_N) (sc := defScope listed_s) (by decide +kernel)) (fun _ _ _ _ _ => (pg_name (i := 1) sc_listed.nd rfl (Or.inl rfl))) (fun _ _ _ _ _ => pts_nil) (fun _ _ _ _ _ => (pe_call G_listed (hr.mono (by omega)) (by rfl) T.m_listed T.F_listed.kp T.b_listed .nil pass0 (pa_cons (pv 1) pa_nil)))) pa_nil))))))), ?_⟩
    cases t with
    | leaf n =>
      rw [flg_leaf, tD_leaf] at q
      rw [tD_leaf] at hd
      refine s_seq (s_if (b_val (t_call1 (t_var rfl (spP_bl off_sub _ (.cons hd .nil) trivial rfl fun H1 s1 => ⟨_, rfl, ifT rfl ?_⟩)))))
      cases hd
      exact s_ret (t_var rfl (q _ H1 s1 (.int _)))
    | gate b k ps =>
      rw [flg_gate, tD_gate] at q
      rw [tD_gate] at hd
      refine s_seq (s_if (b_val (t_call1 (t_var rfl (spP_bl off_sub _ (.cons hd .nil) trivial rfl fun H1 s1 => ⟨_, rfl, ifF rfl (s_next ?_)⟩)))))
      have kn1 := kn.same s1
      have hd1 := dp_same (off_same s1) _ _ hd
      refine s_ret (t_tup (a_cons (t_c (a_cons (t_op (t_var rfl (t_c (ix_d (i := 1) off_sub hd1 rfl rfl fun u du => ?_))))))))
      cases du
      refine a_cons (lc_seqN rp_np (b := b) (ds := ps.map tD) (nth ps fun p => tD (flg false p)) h12 kn1 (fun Q q => t_op (t_var rfl (t_c (ix_d (i := 2) off_sub hd1 rfl rfl fun u du => q u _ (Same.refl _) du)))) (len_ok sm) (fun _ => rfl) (fun j x d H2 Sa Sb dj s2 hab kn2 dx hS Q q => ?_) fun D H2 ys hD s2 hd2 h2 => ?_)
      · obtain ⟨p, pj, pm, rfl⟩ := at_ps dj
        refine t_call1 (t_var rfl ⟨Sa, Sb, p, hab, kn2, .cons dx .nil, ⟨sm.parts p pm, dep_lt dp p pm⟩, fun v H' s' h => q v H' s' ?_⟩)
        rw [nth_eq pj]; exact h
      · rw [nth_map] at h2
        refine ⟨le3, fun p hp => q _ _ ((s1.trans s2).trans (same_new hp)) ?_⟩
        rw [List.map_map]
        exact np_gate (kn1.same s2) hp h2
theorem ok__law_listedN (T : Txt K mg a fd C tk) : ∀ d, FnOk P w K mg base CX0 (d + 1) (a 42) (fd 42) ["_law_sketch"] (spListN K d)
  | 0 => fn_none fun _ _ _ _ => preN
  | d + 1 => by
    have G__law_listed := ok__law_listedN T d
    refine T.F__law_listed.ok sc__law_listed (fun vs H Q E h => spN_len (fun _ => rfl) h) (fun cdv A outer s H vs Q E hr h => ?_)
    obtain ⟨S, S2, t, h12, kn, hd, ⟨sm, dp⟩, q⟩ := h
    replace q : ∀ v H', Same H H' → Np (off S2 H') v (tD (flg false t)) → Q v H' := q
    obtain - | ⟨hd, ⟨⟩⟩ := hd
    rename_i v
    refine ⟨_, (pss_cons (ps_if (pt_not (pt_val (pe_callB (k_isi (K := K)) (by rfl) T.z_isinstance (by decide +kernel) (pa_cons (pv 0) (pa_cons (pe_bltn (v := .ty "tuple") (by rfl) T.z_tuple (by decide +kernel) rfl) pa_nil)))))
        (pss_one (ps_ret (pv 0))) pss_nil)
      (pss_one (ps_ret (pe_tup (pa_cons pe_str (pa_cons (pe_ix (k_ix (K := K)) (pv 0) pe_int (fun _ _ => rfl)) (pa_cons (pe_lc (own := [("_law_part", 1)]) (g := gName 1) (tt := tYes) rfl sc__law_listed.nd (k_pi (K := K) (pe_ix (k_ix (K := K)) (pv 0) pe_int (fun _ _ => rfl))) (blkOk_by (own := [("_law_part", 1)]) (N := _law_listed_N) (sc := defScope _law_listed_s) (by decide +kernel)) (fun _ _ _ _ _ => (pg_name (i := 1) sc__law_listed.nd rfl (Or.inl rfl))) (fun _ _ _ _ _ => pts_nil) (fun _ _ _ _ _ => (pe_call G__law_listed (hr.mono (by omega)) (by rfl) T.m__law_listed T.F__law_listed.kp T.b__law_listed .nil pass0 (pa_cons (pv 1) pa_nil)))) pa_nil))))))), ?_⟩
    cases t with
    | leaf n =>
      rw [flg_leaf, tD_leaf] at q
      refine s_seq (s_if (b_not (b_val (t_cb2 (t_var rfl (t_c (isTup_leaf (σ := []) hd ⟨_, rfl, ifT rfl ?_⟩)))))))
      rw [tD_leaf] at hd
      cases hd
      exact s_ret (t_var rfl (q _ H (Same.refl _) (.int _)))
    | gate b k ps =>
      rw [flg_gate, tD_gate] at q
      refine s_seq (s_if (b_not (b_val (t_cb2 (t_var rfl (t_c (isTup_gate (σ := []) hd ⟨_, rfl, ifF rfl (s_next ?_)⟩)))))))
      rw [tD_gate] at hd
      refine s_ret (t_tup (a_cons (t_c (a_cons (t_op (t_var rfl (t_c (ix_d (i := 1) off_sub hd rfl rfl fun u du => ?_))))))))
      cases du
      refine a_cons (lc_seqN rp_np (b := b) (ds := ps.map tD) (nth ps fun p => tD (flg false p)) h12 kn (fun Q q => t_op (t_var rfl (t_c (ix_d (i := 2) off_sub hd rfl rfl fun u du => q u _ (Same.refl _) du)))) (len_ok sm) (fun _ => rfl) (fun j x d H2 Sa Sb dj s2 hab kn2 dx hS Q q => ?_) fun D H2 ys hD s2 hd2 h2 => ?_)
      · obtain ⟨p, pj, pm, rfl⟩ := at_ps dj
        refine t_call1 (t_var rfl ⟨Sa, Sb, p, hab, kn2, .cons dx .nil, ⟨sm.parts p pm, dep_lt dp p pm⟩, fun v H' s' h => q v H' s' ?_⟩)
        rw [nth_eq pj]; exact h
      · rw [nth_map] at h2
        refine ⟨le3, fun p hp => q _ _ (s2.trans (same_new hp)) ?_⟩
        rw [List.map_map]
        exact np_gate (kn.same s2) hp h2
/-- tree.shape, new -/
def spShape (K : PySem.W.Frag) (C : Addr) : Sp := fun vs H Q _ => ∃ (S : Addr → Prop) (t : Kh.T) (x : Addr), vs = [.ref x] ∧ Kn S H ∧ TreeAt K C (off S H) t x ∧ Okt t ∧ ∀ v H', Same H H' → Np (off (old H) H') v (tD (flg false t)) → Q v H'
theorem ok_Tree_shapeN (T : Txt K mg a fd C tk) (U : TxC K mg a C) : FnOk P w K mg base CX0 8 (a 15) (fd 15) ["self"] (spShape K C) := by
  have G_listed := ok_listedN (P := P) (w := w) (base := base) T 6
  refine T.F_Tree_shape.ok sc_Tree_shape (fun vs H Q E h => by obtain ⟨_, _, _, rfl, _⟩ := h; rfl) (fun cdv A outer s H vs Q E hr h => ?_)
  obtain ⟨S, t, x, rfl, kn, ht, ok, q⟩ := h
  refine ⟨_, (pss_one (ps_ret (pe_call G_listed (hr.mono (by omega)) (by rfl) T.m_listed T.F_listed.kp T.b_listed .nil pass0 (pa_cons (k_fld (K := K) (pv 0) rfl) pa_nil)))), ?_⟩
  refine s_ret (t_call1 (fld_shape U ht rfl fun v1 d1 => ⟨S, old H, flg true t, kn, kn_old, .cons d1 .nil, preOf (okt_flg ok), fun v H' s h => q v H' s ?_⟩))
  replace h : Np (off (old H) H') v (tD (flg false (flg true t))) := h
  rw [flg_flg] at h; exact h
/-- the lists of a new tree are lengthened; what was known before stays -/
def spSpoil (K : PySem.W.Frag) : Sp := fun vs H Q _ => ∃ (H0 : Hp) (t : Kh.T) (v : V), vs = [v] ∧ Np (off (old H0) H) v (tD (flg false t)) ∧ Same H0 H ∧ Sm t ∧ ∀ H', Same H0 H' → (∀ b o, (∀ xs, o ≠ .lst xs) → H b = some o → H' b = some o) → Q .non H'
/-- what lengthening leaves -/
structure Lng (H0 H H' : Hp) (m : Nat) : Prop where
  oth : ∀ b o, (∀ xs, o ≠ .lst xs) → H b = some o → H' b = some o
  lst : ∀ b xs, H b = some (.lst xs) → ∃ ys, H' b = some (.lst ys) ∧ ys.length ≤ xs.length + m
  old : Same H0 H'
theorem Lng.app {H0 H H' : Hp} {m : Nat} (g : Lng H0 H H' m) {l : Addr} {xs ys : List V} {z : V} (hl : H l = some (.lst xs)) (h0 : H0 l = none) (hy : H' l = some (.lst ys)) : Lng H0 H (upd H' l (.lst (ys ++ [z]))) (m + 1) := by
  refine ⟨fun b o n h => ?_, fun b us h => ?_, fun b o h => ?_⟩
  · have e : b ≠ l := fun e => by subst e; rw [hl] at h; cases h; exact n _ rfl
    rw [upd_ne e]; exact g.oth b o n h
  · obtain ⟨vs, h1, h2⟩ := g.lst b us h
    by_cases e : b = l
    · subst e
      rw [h1] at hy; cases hy
      exact ⟨_, upd_same, by rw [List.length_append]; simp; omega⟩
    · exact ⟨vs, by rw [upd_ne e]; exact h1, by omega⟩
  · rw [upd_ne (ne_of_none h h0)]; exact g.old b o h
theorem Lng.more {H0 H H' : Hp} {m : Nat} (g : Lng H0 H H' m) : Lng H0 H H' (m + 1) := ⟨g.oth, fun b xs h => let ⟨ys, h1, h2⟩ := g.lst b xs h; ⟨ys, h1, by omega⟩, g.old⟩
/-- a new gate, taken apart -/
theorem gate_at {H0 H : Hp} {v : V} {k : Nat} {ps : List Kh.T} {b : Bool} (h : Np (off (old H0) H) v (tD (flg false (.gate b k ps)))) : ∃ p l xs, v = .ref p ∧ H p = some (.tup [.str "of", .int k, .ref l]) ∧ H l = some (.lst xs) ∧ H0 l = none ∧ xs.length = ps.length ∧
    ∀ (i : Nat) x, xs[i]? = some x → ∃ p', ps[i]? = some p' ∧ p' ∈ ps ∧ Np (off (old H0) H) x (tD (flg false p')) := by
  rw [flg_gate, tD_gate] at h
  cases h with
  | @tup p ys _ h0 hl ht =>
    match ys, hl, h0, ht with
    | [y0, y1, y2], _, h0, ht =>
      have t0 := ht 0 y0 _ rfl rfl
      have t1 := ht 1 y1 _ rfl rfl
      have t2 := ht 2 y2 (.list ((ps.map (flg false)).map tD)) rfl rfl
      cases t0
      cases t1
      cases t2 with
      | @lst l xs _ g0 gl gt =>
        obtain ⟨n0, g0⟩ := off_some g0
        refine ⟨p, l, xs, rfl, (off_some h0).2, g0, Classical.byContradiction fun z => n0 z, by rw [gl]; simp, fun i x hx => ?_⟩
        have hi : i < ps.length := by
          have := (List.getElem?_eq_some_iff.mp hx).1
          rw [gl] at this; simpa using this
        refine ⟨ps[i], List.getElem?_eq_getElem hi, List.getElem_mem hi, gt i x _ hx ?_⟩
        rw [List.getElem?_map, List.getElem?_map, List.getElem?_eq_getElem hi]; rfl
theorem isi_int {H : Hp} {n : Int} {Q : VK} (q : Q (.bl false) H) : rIsi K [.int n, .ty "tuple"] H Q := ⟨.int n, .ty "tuple", .type "int", .type "tuple", false, rfl, .ty "tuple", .base (.int n), kit_ty (kit_tup (.int n)), q⟩
theorem isi_tupA {H : Hp} {p : Addr} {xs : List V} {Q : VK} (h : H p = some (.tup xs)) (q : Q (.bl true) H) : rIsi K [.ref p, .ty "tuple"] H Q := ⟨.ref p, .ty "tuple", .type "tuple", .type "tuple", true, rfl, .ty "tuple", .base (.tup h), kit_ty (kit_tup (.tuple [])), q⟩
theorem ok__law_spoil (T : Txt K mg a fd C tk) : FnOk P w K mg base CX0 1 (a 43) (fd 43) ["_law_sketch"] (spSpoil K) := by
  refine T.F__law_spoil.ok sc__law_spoil (fun vs H Q E h => by obtain ⟨_, _, _, rfl, _⟩ := h; rfl) (fun cdv A outer s H vs Q E hr h => ?_)
  obtain ⟨H0, t, v, rfl, hd, s0, sm, q⟩ := h
  refine ⟨_, (pss_one (ps_if (pt_val (pe_callB (k_isi (K := K)) (by rfl) T.z_isinstance (by decide +kernel) (pa_cons (pv 0) (pa_cons (pe_bltn (v := .ty "tuple") (by rfl) T.z_tuple (by decide +kernel) rfl) pa_nil))))
        (pss_cons (ps_for PassesOwn.never rfl (k_pi (K := K) (pe_callTy (k_list (K := K)) (by rfl) T.z_list (by decide +kernel) (pa_cons (pe_ix (k_ix (K := K)) (pv 0) pe_int (fun _ _ => rfl)) pa_nil))) (pg_name (i := 1) sc__law_spoil.nd rfl (Or.inl rfl))
          (pss_one (ps_if (pt_val (pe_callB (k_isi (K := K)) (by rfl) T.z_isinstance (by decide +kernel) (pa_cons (pv 1) (pa_cons (pe_bltn (v := .ty "tuple") (by rfl) T.z_tuple (by decide +kernel) rfl) pa_nil))))
            (pss_one (ps_expr (pe_bm PySem.F.plainAttrs_list PySem.F.slot_list_append PySem.F.type_list_append mt_append (pe_ix (k_ix (K := K)) (pv 1) pe_int (fun _ _ => rfl)) (pa_cons pe_int pa_nil)))) pss_nil)))
        (pss_one (ps_expr (pe_bm PySem.F.plainAttrs_list PySem.F.slot_list_append PySem.F.type_list_append mt_append (pe_ix (k_ix (K := K)) (pv 0) pe_int (fun _ _ => rfl)) (pa_cons pe_int pa_nil))))) pss_nil)), ?_⟩
  have kn0 : Kn (old H0) H := fun a h => same_ne s0 h
  cases t with
  | leaf n =>
    rw [flg_leaf, tD_leaf] at hd
    cases hd
    refine s_if (b_val (t_cb2 (t_var rfl (t_c (isi_int ⟨_, rfl, ifF rfl (s_next (q H s0 fun b o _ h => h))⟩)))))
  | gate b k ps =>
    have hD := hd.dp (K := K)
    rw [flg_gate, tD_gate] at hD
    obtain ⟨p, l, xs, rfl, hp, hl, h0l, hlen, parts⟩ := gate_at hd
    refine s_if (b_val (t_cb2 (t_var rfl (t_c (isi_d off_sub hD (kit_tup _) ⟨_, rfl, ifT rfl ?_⟩)))))
    refine s_seq ?_
    have ix : ∀ {H' : Hp} {u : Addr} {l' : Addr} {k' : Int} {Q' : VK}, H' u = some (.tup [.str "of", .int k', .ref l']) → Q' (.ref l') H' → rIx K (.ref u) (.int ((2 : Nat) : Int)) H' Q' := fun {H' u l' k' Q'} h q => .inr (.inl ⟨u, _, ((2 : Nat) : Int), .ref l', rfl, rfl, sqT h, atI_nat rfl, q⟩)
    have many : ps.length ≤ 1000 := sm.len
    refine .inl (t_cb1 (t_op (t_var rfl (t_c (ix hp ⟨l, xs, rfl, .inl (sqL hl), fun L hL => ?_⟩)))))
    refine ⟨L, rfl, ⟨xs, sqL upd_same⟩, ?_⟩
    refine for_it walk_list (fun i σ' H' => ∃ x1, σ' = [some (.ref p), x1] ∧ Lng H0 H H' i ∧ H' L = some (.lst xs)) ⟨_, rfl, ⟨fun b o _ h => same_new hL _ _ h, fun b us h => ⟨us, same_new hL _ _ h, by omega⟩, s0.trans (same_new hL)⟩, upd_same⟩ (fun i σ' H' _ ⟨_, _, _, h⟩ => sqL h) ?_ ?_
    · rintro i x σ' H1 H2 hi ⟨x1, rfl, g, hL1⟩ ⟨rfl, hx⟩
      obtain ⟨p', pi, pm, hx'⟩ := parts i x hx
      refine g_name ?_
      cases p' with
      | leaf n =>
        rw [flg_leaf, tD_leaf] at hx'
        cases hx'
        exact s_if (b_val (t_cb2 (t_var rfl (t_c (isi_int ⟨_, rfl, ifF rfl (s_next ⟨_, rfl, g.more, hL1⟩)⟩)))))
      | gate b' k' ps' =>
        obtain ⟨p2, l2, xs2, rfl, hp2, hl2, h0l2, hlen2, _⟩ := gate_at hx'
        have hp2' := g.oth _ _ (fun us z => by cases z) hp2
        refine s_if (b_val (t_cb2 (t_var rfl (t_c (isi_tupA hp2' ⟨_, rfl, ifT rfl ?_⟩)))))
        obtain ⟨ys, hy, hyl⟩ := g.lst _ _ hl2
        have l2L : l2 ≠ L := ne_of_none hl2 hL
        have many2 : ps'.length ≤ 1000 := (sm.parts _ pm).len
        have hi' : i < xs.length := hi
        refine s_drop (t_bm (t_op (t_var rfl (t_c (ix hp2' ⟨.inl ⟨rfl, _, sqL hy⟩, a_cons (t_c (a_nil ⟨l2, ys, _, rfl, rfl, hy, Nat.lt_of_le_of_lt (show ys.length ≤ 100000 by omega) (by decide), ?_⟩))⟩)))))
        exact ⟨_, rfl, g.app hl2 h0l2 hy, by rw [upd_ne (fun e => l2L e.symm)]; exact hL1⟩
    · rintro σ' H' ⟨x1, rfl, g, hL1⟩
      obtain ⟨ys, hy, hyl⟩ := g.lst _ _ hl
      have hp' := g.oth _ _ (fun us z => by cases z) hp
      refine nx_of (s_drop (t_bm (t_op (t_var rfl (t_c (ix hp' ⟨.inl ⟨rfl, _, sqL hy⟩, a_cons (t_c (a_nil ⟨l, ys, _, rfl, rfl, hy, Nat.lt_of_le_of_lt (show ys.length ≤ 100000 by omega) (by decide), ?_⟩))⟩))))))
      exact q _ (g.app hl h0l hy).old (g.app hl h0l hy).oth
end
end K31

set_option maxRecDepth 100000
set_option maxHeartbeats 4000000
namespace K31
open PySem PySem.Spec PyProof.Rows L2 Kh
section
variable {P : Program} {w : World} {K : PySem.W.Frag} {mg : Str → Option Value} {base : Heap} {a : Nat → Addr} {fd : Nat → FuncData} {C : Addr} {tk : Nat → Tok}
/-- all lists of some of ns, in some order -/
def spLists (K : PySem.W.Frag) : Sp := fun vs H Q _ => ∃ (S : Addr → Prop) (ns : List Nat) (v : V), vs = [v] ∧ Kn S H ∧ Dp K (off S H) v (nL ns) ∧ ns.length ≤ 8 ∧
  ∀ u H' (ms : List (List Nat)), Same H H' → Dp K (off S H') u (.list (ms.map nL)) → (∀ m ∈ ms, m.Sublist ns) → ms.length ≤ 256 → Q u H'
theorem nL_snoc (m : List Nat) (n : Nat) : PyData.list (m.map nD ++ [.int (n : Nat)]) = nL (m ++ [n]) := by unfold nL; rw [List.map_append]; rfl
theorem alike_pair (m l : List Nat) : PySem.W.alike (.tuple [.int (m.length : Nat), nL m]) (.tuple [.int (l.length : Nat), nL l]) = true := by
  have h : PySem.W.alikeAll (m.map nD) (l.map nD) = true := by
    rw [nD_map, nD_map]; exact PySem.W.alike_ints _ _
  unfold nL
  simp only [PySem.W.alike, PySem.W.alikeAll, h, Bool.and_true]
theorem depth_pair (m : List Nat) : (PyData.tuple [.int (m.length : Nat), nL m]).depth ≤ 60 := by
  have h : PyData.depthAll (m.map nD) = 0 := by rw [nD_map]; exact PySem.W.depth_ints _
  unfold nL
  simp only [PyData.depth, PyData.depthAll, h]
  decide
theorem perm_map {α β : Type} {f : α → β} : ∀ {es : List β} {ms : List α}, es.Perm (ms.map f) → ∃ l : List α, l.Perm ms ∧ es = l.map f
  | [], ms, h => by
    have := h.length_eq
    rw [List.length_map] at this
    exact ⟨[], by rw [List.eq_nil_of_length_eq_zero this.symm], rfl⟩
  | e :: es, ms, h => by
    have he : e ∈ ms.map f := h.mem_iff.mp List.mem_cons_self
    obtain ⟨m, hm, rfl⟩ := List.mem_map.mp he
    obtain ⟨a, b, rfl⟩ := List.append_of_mem hm
    have p1 : (a ++ m :: b).Perm (m :: (a ++ b)) := List.perm_middle
    have p2 : (f m :: es).Perm (f m :: (a ++ b).map f) := h.trans (by have := p1.map f; rwa [List.map_cons] at this)
    obtain ⟨l, pl, rfl⟩ := perm_map (List.Perm.cons_inv p2)
    exact ⟨m :: l, (pl.cons m).trans p1.symm, rfl⟩
def dPair (m : List Nat) : PyData := .tuple [.int (m.length : Nat), nL m]
theorem ok__law_lists (T : Txt K mg a fd C tk) : FnOk P w K mg base CX0 1 (a 40) (fd 40) ["_law_some"] (spLists K) := by
  refine T.F__law_lists.ok sc__law_lists (fun vs H Q E h => by obtain ⟨_, _, _, rfl, _⟩ := h; rfl) (fun cdv A outer s H vs Q E hr h => ?_)
  obtain ⟨S, ns, v, rfl, kn, hd, few, q⟩ := h
  refine ⟨_, (pss_cons (ps_set (i := 1) sc__law_lists.nd rfl (Or.inl rfl) (pe_lst (pa_cons (pe_lst pa_nil) pa_nil)))
      (pss_cons (ps_for PassesOwn.never rfl (k_pi (K := K) (pv 0)) (pg_name (i := 2) sc__law_lists.nd rfl (Or.inr rfl))
        (pss_one (ps_set (i := 1) sc__law_lists.nd rfl (Or.inl rfl) (pe_op (k_catS (K := K)) (pv 1) (pe_lc (own := [("_law_part", 3)]) (g := gName 3) (tt := tYes) rfl sc__law_lists.nd (k_pi (K := K) (pv 1)) (blkOk_by (own := [("_law_part", 3)]) (N := _law_lists_N) (sc := defScope _law_lists_s) (by decide +kernel)) (fun _ _ _ _ _ => (pg_name (i := 3) sc__law_lists.nd rfl (Or.inl rfl))) (fun _ _ _ _ _ => pts_nil) (fun _ _ _ _ _ => (pe_op (k_catS (K := K)) (pv 3) (pe_lst (pa_cons (pv 2) pa_nil)))))))))
      (pss_one (ps_ret (pe_lc (own := [("_law_size", 4), ("_law_part", 3)]) (g := gTup K 2 (gCons (gName 4) (gCons (gName 3) gNil))) (tt := tYes) rfl sc__law_lists.nd (k_pi (K := K) (pe_callB (k_sortD (K := K) hr.units) (by rfl) T.z_sorted (by decide +kernel) (pa_cons (pe_lc (own := [("_law_part", 3)]) (g := gName 3) (tt := tYes) rfl sc__law_lists.nd (k_pi (K := K) (pv 1)) (blkOk_by (own := [("_law_part", 3)]) (N := _law_lists_N) (sc := defScope _law_lists_s) (by decide +kernel)) (fun _ _ _ _ _ => (pg_name (i := 3) sc__law_lists.nd rfl (Or.inl rfl))) (fun _ _ _ _ _ => pts_nil) (fun _ _ _ _ _ => (pe_tup (pa_cons (pe_callB (k_len (K := K)) (by rfl) T.z_len (by decide +kernel) (pa_cons (pv 3) pa_nil)) (pa_cons (pv 3) pa_nil))))) pa_nil))) (blkOk_by (own := [("_law_size", 4), ("_law_part", 3)]) (N := _law_lists_N) (sc := defScope _law_lists_s) (by decide +kernel)) (fun _ _ _ _ _ => (pg_tup rfl (pgs_cons (pg_name (i := 4) sc__law_lists.nd rfl (Or.inl rfl)) (pgs_cons (pg_name (i := 3) sc__law_lists.nd rfl (Or.inl rfl)) pgs_nil)))) (fun _ _ _ _ _ => pts_nil) (fun _ _ _ _ _ => (pv 3))))))), ?_⟩
  refine s_seq (s_set (t_lst (a_cons (t_lst0 fun E0 hE => a_nil ⟨le1, fun F hF => ?_⟩))))
  have sE := same_new (o := HO.lst []) hE
  have dE := dp_newL (K := K) kn hE .nil
  have dF := dp_newL (kn.same sE) hF (.cons dE .nil)
  have sF := sE.trans (same_new (o := HO.lst [V.ref E0]) hF)
  generalize upd (upd H E0 (.lst [])) F (.lst [.ref E0]) = H1 at *
  have kn1 := kn.same sF
  have hd1 := dp_same (off_same sF) _ _ hd
  refine s_seq (s_for (S := S) (b := false) (ds := ns.map nD) kn1 (fun Q q => t_var rfl (q _ _ (Same.refl _) hd1)) fun xs H2 s2 kn2 ha hl => ?_)
  have two : ∀ i, i ≤ 8 → 2 ^ i ≤ 256 := fun i h => by
    match i, h with
    | 0, _ => decide
    | 1, _ => decide
    | 2, _ => decide
    | 3, _ => decide
    | 4, _ => decide
    | 5, _ => decide
    | 6, _ => decide
    | 7, _ => decide
    | 8, _ => decide
  refine ⟨fun i σ' H' => ∃ (F : V) (ms : List (List Nat)) (x2 x3 x4 : Option V), σ' = [some v, some F, x2, x3, x4] ∧ Same H2 H' ∧ Dp K (off S H') F (.list (ms.map nL)) ∧ (∀ m ∈ ms, m.Sublist (ns.take i)) ∧ ms.length = 2 ^ i, ⟨_, [[]], _, _, _, rfl, Same.refl _, dp_same (off_same s2) _ _ dF, fun m hm => by rw [List.mem_singleton.mp hm]; exact List.nil_sublist _, rfl⟩, fun i σ' H' _ ⟨_, _, _, _, _, _, s, _⟩ => off_sub.trans s, ?_, ?_⟩
  · rintro i x d σ' H' di dx ⟨F, ms, x2, x3, x4, rfl, s3, dF', sub, len⟩
    rw [List.getElem?_map] at di
    cases ni : ns[i]? with
    | none => rw [ni] at di; cases di
    | some n =>
      rw [ni] at di
      obtain rfl := (Option.some.inj di).symm
      cases dx
      have kn3 := kn2.same s3
      have hi : i < ns.length := (List.getElem?_eq_some_iff.mp ni).1
      have m256 := two i (by omega)
      have lens : ∀ m ∈ ms, m.length ≤ 8 := fun m hm => Nat.le_trans (sub m hm).length_le (by rw [List.length_take]; omega)
      refine g_name (s_set (t_op (t_var rfl ?_)))
      refine lc_seq (b := false) (ds := ms.map nL) (fun j => match ms[j]? with | some m => nL (m ++ [n]) | none => .none) kn3 (fun Q q => t_var rfl (q _ _ (Same.refl _) dF')) (by rw [List.length_map, len]; omega) (fun _ => rfl) (fun j x d H4 S' dj s4 kn4 dx hS hoff Q q => ?_) fun D H4 ys hD s4 hd4 h4 => ?_
      · rw [List.getElem?_map] at dj
        cases mj : ms[j]? with
        | none => rw [mj] at dj; cases dj
        | some m =>
          rw [mj] at dj
          obtain rfl := (Option.some.inj dj).symm
          refine t_op (t_var rfl (t_lst (a_cons (t_var rfl ⟨le1, fun p hp => ?_⟩))))
          have sp := same_new (o := HO.lst [V.int (n : Nat)]) hp
          have dp := dp_newL (K := K) kn4 (ds := [.int (n : Nat)]) hp (.cons (.int _) .nil)
          have := lens m (List.mem_of_getElem? mj)
          refine cat_d (ds := m.map nD) (es := [.int (n : Nat)]) (kn4.same sp) (dp_same (off_same sp) _ _ dx) dp (by rw [List.length_map]; simp; omega) fun u H5 s5 d5 => q u H5 (sp.trans s5) ?_
          rw [mj]
          show Dp K (off S' H5) u (nL (m ++ [n]))
          rw [← nL_snoc]; exact d5
      · have e : (List.range (ms.map nL).length).map (fun j => match ms[j]? with | some m => nL (m ++ [n]) | none => .none) = ms.map fun m => nL (m ++ [n]) := by
          rw [List.length_map]
          exact range_map fun i x e => by rw [e]
        rw [e] at h4
        refine cat_d (ds := ms.map nL) (es := ms.map fun m => nL (m ++ [n])) (kn3.same s4) (dp_same (off_same s4) _ _ dF') h4 (by rw [List.length_map, List.length_map, len]; omega) fun u H5 s5 d5 => ?_
        refine ⟨u, ms ++ ms.map (· ++ [n]), _, _, _, rfl, s3.trans (s4.trans s5), ?_, ?_, ?_⟩
        · rw [List.map_append, List.map_map]; exact d5
        · intro m hm
          rw [List.take_add_one, ni]
          rcases List.mem_append.mp hm with hm | hm
          · exact (sub m hm).trans (List.sublist_append_left _ _)
          · obtain ⟨m', hm', rfl⟩ := List.mem_map.mp hm
            exact (sub m' hm').append (List.Sublist.refl _)
        · rw [List.length_append, List.length_map, len, Nat.pow_succ]; omega
  · rintro σ' H' ⟨F, ms, x2, x3, x4, rfl, s3, dF', sub, len⟩
    rw [List.length_map] at sub len
    rw [List.take_length] at sub
    have kn3 := kn2.same s3
    have m256 := two ns.length few
    refine nx_of (s_ret ?_)
    -- the pairs
    have pairs : ∀ Q' : VK, (∀ u H4, Same H' H4 → Dp K (off S H4) u (.list (ms.map dPair)) → Q' u H4) → tLc (fun σ H R => iList K (tVar 1) σ H R ∨ iTup K (tVar 1) σ H R) (gName 3) tYes (tTup (tCons (tCB (Kh.rLen K) (tCons (tVar 3) tNil)) (tCons (tVar 3) tNil))) [3] [some v, some F, x2, x3, x4] H' Q' := by
      intro Q' q'
      refine lc_seq (b := false) (ds := ms.map nL) (fun j => match ms[j]? with | some m => dPair m | none => .none) kn3 (fun Q q => t_var rfl (q _ _ (Same.refl _) dF')) (by rw [List.length_map, len]; omega) (fun _ => rfl) (fun j x d H4 S' dj s4 kn4 dx hS hoff Q q => ?_) fun D H4 ys hD s4 hd4 h4 => ?_
      · rw [List.getElem?_map] at dj
        cases mj : ms[j]? with
        | none => rw [mj] at dj; cases dj
        | some m =>
          rw [mj] at dj
          obtain rfl := (Option.some.inj dj).symm
          refine t_tup (a_cons (t_cb1 (t_var rfl (len_d off_sub dx (ds := m.map nD) rfl (a_cons (t_var rfl (a_nil ⟨le2, fun p hp => q _ _ (same_new hp) ?_⟩)))))))
          rw [mj, List.length_map]
          exact dp_newT kn4 hp (.cons (.int _) (.cons dx .nil))
      · refine q' _ _ s4 ?_
        have e : (List.range (ms.map nL).length).map (fun j => match ms[j]? with | some m => dPair m | none => .none) = ms.map dPair := by
          rw [List.length_map]
          exact range_map fun i x e => by rw [e]
        rw [e] at h4; exact h4
    refine lc_pair (fun ds => ∃ l : List (List Nat), l.Perm ms ∧ ds = l.map fun m => (PyData.int (m.length : Nat), nL m)) kn3 (fun Q' q' => ?_) (fun ds h => ?_) (fun _ _ => rfl) (fun _ _ => rfl) fun D H4 ys ds pd hD s4 hd4 h4 => ?_
    · refine t_cb1 (pairs _ fun u H4 s4 d4 => ?_)
      refine sort_d (kn3.same s4) d4 (fun d hd d' hd' => ?_) (.inl fun d hd => ?_) (fun d hd => ?_) fun u2 H5 es s5 pe d5 => ?_
      · obtain ⟨m, _, rfl⟩ := List.mem_map.mp hd
        obtain ⟨l, _, rfl⟩ := List.mem_map.mp hd'
        exact alike_pair m l
      · obtain ⟨m, _, rfl⟩ := List.mem_map.mp hd
        exact ⟨_, _, rfl⟩
      · obtain ⟨m, _, rfl⟩ := List.mem_map.mp hd
        exact depth_pair m
      · have inv : ∃ l : List (List Nat), l.Perm ms ∧ es = l.map dPair := perm_map pe
        obtain ⟨l, pl, rfl⟩ := inv
        refine q' u2 H5 (l.map fun m => (PyData.int (m.length : Nat), nL m)) (s4.trans s5) ⟨l, pl, rfl⟩ ?_
        rw [List.map_map]; exact d5
    · obtain ⟨l, pl, rfl⟩ := h
      rw [List.length_map, pl.length_eq, len]; omega
    · obtain ⟨l, pl, rfl⟩ := pd
      rw [List.map_map] at h4
      refine q _ H4 l ((sF.trans s2).trans (s3.trans s4)) h4 (fun m hm => sub m (pl.mem_iff.mp hm)) ?_
      rw [pl.length_eq, len]; exact m256
end
end K31

set_option maxRecDepth 100000
set_option maxHeartbeats 4000000
namespace K31
open PySem PySem.Spec PyProof.Rows L2 Kh
/-- a pot stands at p -/
def PotAt (H : Hp) (p : Addr) : Prop := ∃ x y : Int, H p = some (.lst [.int x, .int y]) ∧ y.natAbs < 2 ^ 40
theorem log_lt {j : Int} {b : Nat} (h : j.natAbs < 2 ^ b) (h0 : 0 < b) : j.natAbs.log2 < b := PySem.Flt.log2_lt_of h0 h
section
variable {P : Program} {w : World} {K : PySem.W.Frag} {mg : Str → Option Value} {base : Heap} {a : Nat → Addr} {fd : Nat → FuncData} {C : Addr} {tk : Nat → Tok}
/-- a new pot -/
def spPot (K : PySem.W.Frag) : Sp := fun vs H Q _ => ∃ (v : V) (ns : List Int) (k : Nat), vs = [v, .int (k : Nat)] ∧ Dp K H v (.list (ns.map PyData.int)) ∧ k < 100 ∧ ∀ p H', Same H H' → H p = none → PotAt H' p → Q (.ref p) H'
theorem ok__law_pot (T : Txt K mg a fd C tk) : FnOk P w K mg base CX0 1 (a 26) (fd 26) ["_law_script", "_law_k"] (spPot K) := by
  refine T.F__law_pot.ok sc__law_pot (fun vs H Q E h => by obtain ⟨_, _, _, rfl, _⟩ := h; rfl) (fun cdv A outer s H vs Q E hr h => ?_)
  obtain ⟨v, ns, k, rfl, hd, hk, q⟩ := h
  refine ⟨_, (pss_cons (ps_set (i := 2) sc__law_pot.nd rfl (Or.inl rfl) (pe_op op_add (pe_op op_mulW pe_int (pv 1)) pe_int))
      (pss_cons (ps_if (pt_cmpR op_lt (pv 1) (pe_callB (k_len (K := K)) (by rfl) T.z_len (by decide +kernel) (pa_cons (pv 0) pa_nil)) (nomark _))
        (pss_one (ps_set (i := 2) sc__law_pot.nd rfl (Or.inl rfl) (pe_callB call_absR (by rfl) T.z_abs (by decide +kernel) (pa_cons (pe_ix (k_ix (K := K)) (pv 0) (pv 1) (fun _ _ => rfl)) pa_nil)))) pss_nil)
      (pss_one (ps_ret (pe_lst (pa_cons (pe_callB (call_max2R rfl) (by rfl) T.z_max (by decide +kernel) (pa_cons pe_int (pa_cons (pe_op op_sub (pv 2) (pe_op op_pow pe_int pe_int)) pa_nil))) (pa_cons (pe_op op_add (pe_op op_mod (pe_callTy call_int1R (by rfl) T.z_int (by decide +kernel) (pa_cons (pe_op op_add (pe_op op_add (pe_op op_mulW (pe_op op_mod (pe_callTy call_int1R (by rfl) T.z_int (by decide +kernel) (pa_cons (pv 2) pa_nil)) pe_int) pe_int) (pe_op op_mulW pe_int (pv 1))) pe_int) pa_nil)) pe_int) pe_int) pa_nil))))))), ?_⟩
  have kb : ((k : Nat) : Int).natAbs < 2 ^ 7 := by simp; omega
  refine s_seq (s_set (t_op (t_op (t_c (t_var rfl ⟨_, _, rfl, rfl, wide_mul (a := 6) (b := 7) (by decide) kb (by decide) (by decide) (by decide), t_c ⟨_, _, rfl, rfl, ?_⟩⟩)))))
  -- the second half, whatever the cell is
  have fin : ∀ c : Int, (tRet (tLst (tCons (tCB rMax2 (tCons (tC (.int 0)) (tCons (tOp (rI0 fun i j => V.int (i - j)) (tVar 2) (tOp (rI CPow fun i j => V.int (i ^ j.toNat)) (tC (.int 10)) (tC (.int 18)))) tNil)))
      (tCons (tOp (rI0 fun i j => V.int (i + j)) (tOp (rI (fun _ j => 0 < j) fun i j => V.int (i % j)) (tCB rInt1 (tCons (tOp (rI0 fun i j => V.int (i + j)) (tOp (rI0 fun i j => V.int (i + j)) (tOp (rI CMulW fun i j => V.int (i * j)) (tOp (rI (fun _ j => 0 < j) fun i j => V.int (i % j)) (tCB rInt1 (tCons (tVar 2) tNil)) (tC (.int 2147483563))) (tC (.int 40013))) (tOp (rI CMulW fun i j => V.int (i * j)) (tC (.int 7)) (tVar 1))) (tC (.int 19))) tNil)) (tC (.int 2147483579))) (tC (.int 1))) tNil)))) { nx := fun _ H' => Q .non H', rt := Q } [some v, some (.int (k : Nat)), some (.int c)] H := by
    intro c
    refine s_ret (t_lst (a_cons (t_cb2 (t_c (t_op (t_var rfl (t_op (t_c (t_c ⟨_, _, rfl, rfl, ⟨by decide, by decide, by decide⟩, ?_⟩))))))))) 
    refine ⟨_, _, rfl, rfl, ⟨_, _, rfl, ?_⟩⟩
    refine a_cons (t_op (t_op (t_cb1 (t_op (t_op (t_op (t_op (t_cb1 (t_var rfl (.inl ⟨_, rfl, t_c ⟨_, _, rfl, rfl, (by decide : (0 : Int) < 2147483563), ?_⟩⟩)))))))))) 
    have m1 : (c % 2147483563).natAbs < 2 ^ 31 := by
      have h1 := Int.emod_nonneg c (show (2147483563 : Int) ≠ 0 by decide)
      have h2 := Int.emod_lt_of_pos c (show (0 : Int) < 2147483563 by decide)
      omega
    refine t_c ⟨_, _, rfl, rfl, wide_mul (a := 31) (b := 16) m1 (by decide) (by decide) (by decide) (by decide), ?_⟩
    refine t_op (t_c (t_var rfl ⟨_, _, rfl, rfl, wide_mul (a := 3) (b := 7) (by decide) kb (by decide) (by decide) (by decide), ⟨_, _, rfl, rfl, t_c ⟨_, _, rfl, rfl, .inl ⟨_, rfl, t_c ⟨_, _, rfl, rfl, (by decide : (0 : Int) < 2147483579), t_c ⟨_, _, rfl, rfl, a_nil ⟨le2, fun p hp => ?_⟩⟩⟩⟩⟩⟩⟩))
    generalize hz : (c % 2147483563 * 40013 + 7 * (k : Int) + 19) = z
    refine q p _ (same_new hp) hp ⟨_, _, upd_same, ?_⟩
    have h1 := Int.emod_nonneg z (show (2147483579 : Int) ≠ 0 by decide)
    have h2 := Int.emod_lt_of_pos z (show (0 : Int) < 2147483579 by decide)
    omega
  obtain ⟨l, xs, rfl, hs, ha⟩ := list_at hd
  have ex := dpa_ints ha
  subst ex
  refine s_seq (s_if (b_test (t_op (t_var rfl (t_cb1 (t_var rfl ⟨l, _, rfl, .inl hs, ⟨_, _, rfl, rfl, ?_⟩⟩))))))
  refine ⟨_, rfl, if_b (fun c => ?_) (fun c => s_next (fin _))⟩
  have hk2 : k < ns.length := by have := of_decide_eq_true c; rw [List.length_map] at this; omega
  refine s_set (t_cb1 (t_op (t_var rfl (t_var rfl (.inl ⟨l, _, ((k : Nat) : Int), .int ns[k], rfl, rfl, hs, atI_nat (by simp [hk2]), ⟨_, rfl, fin _⟩⟩)))))
end
end K31

set_option maxRecDepth 100000
set_option maxHeartbeats 4000000
namespace K31
open PySem PySem.Spec PyProof.Rows L2 Kh
section
variable {P : Program} {w : World} {K : PySem.W.Frag} {mg : Str → Option Value} {base : Heap} {a : Nat → Addr} {fd : Nat → FuncData} {C : Addr} {tk : Nat → Tok}
/-- a draw below many -/
def spDraw (K : PySem.W.Frag) : Sp := fun vs H Q _ => ∃ (p : Addr) (m : Nat), vs = [.ref p, .int (m : Nat)] ∧ PotAt H p ∧ 0 < m ∧ m < 100000 ∧ ∀ (d : Nat) H', d < m → SameBut p H H' → PotAt H' p → Q (.int (d : Nat)) H'
theorem ok__law_draw (T : Txt K mg a fd C tk) : FnOk P w K mg base CX0 1 (a 27) (fd 27) ["_law_pot_here", "_law_many"] (spDraw K) := by
  refine T.F__law_draw.ok sc__law_draw (fun vs H Q E h => by obtain ⟨_, _, rfl, _⟩ := h; rfl) (fun cdv A outer s H vs Q E hr h => ?_)
  obtain ⟨p, m, rfl, ⟨x, y, hp, hy⟩, m0, m1, q⟩ := h
  refine ⟨_, (pss_cons (ps_if (pt_cmpR op_gt (pe_ix (k_ix (K := K)) (pv 0) pe_int (fun _ _ => rfl)) pe_int (nomark _))
        (pss_cons (ps_asg (pe_callB call_divmodW (by rfl) T.z_divmod (by decide +kernel) (pa_cons (pe_ix (k_ix (K := K)) (pv 0) pe_int (fun _ _ => rfl)) (pa_cons (pv 1) pa_nil))) (pg_tup rfl (pgs_cons (pg_sub (pv 0) pe_int set_list) (pgs_cons (pg_name (i := 2) sc__law_draw.nd rfl (Or.inl rfl)) pgs_nil))))
        (pss_one (ps_ret (pv 2)))) pss_nil)
      (pss_cons (ps_asg (pe_op op_mod (pe_callTy call_int1R (by rfl) T.z_int (by decide +kernel) (pa_cons (pe_op op_add (pe_op op_mulW (pe_ix (k_ix (K := K)) (pv 0) pe_int (fun _ _ => rfl)) pe_int) pe_int) pa_nil)) pe_int) (pg_sub (pv 0) pe_int set_list))
      (pss_one (ps_ret (pe_op op_mod (pe_callTy call_int1R (by rfl) T.z_int (by decide +kernel) (pa_cons (pe_op op_fdivW (pe_op op_mod (pe_callTy call_int1R (by rfl) T.z_int (by decide +kernel) (pa_cons (pe_op op_mulW (pe_ix (k_ix (K := K)) (pv 0) pe_int (fun _ _ => rfl)) (pe_ix (k_ix (K := K)) (pv 0) pe_int (fun _ _ => rfl))) pa_nil)) pe_int) pe_int) pa_nil)) (pv 1)))))), ?_⟩
  have at0 : ∀ {H' : Hp} {u v : V} {Q' : VK}, H' p = some (.lst [u, v]) → Q' u H' → rIx K (.ref p) (.int 0) H' Q' := fun {H' u v Q'} h q => .inl ⟨p, _, ((0 : Nat) : Int), u, rfl, rfl, sqL h, atI_nat (j := 0) rfl, q⟩
  have at1 : ∀ {H' : Hp} {u v : V} {Q' : VK}, H' p = some (.lst [u, v]) → Q' v H' → rIx K (.ref p) (.int 1) H' Q' := fun {H' u v Q'} h q => .inl ⟨p, _, ((1 : Nat) : Int), v, rfl, rfl, sqL h, atI_nat (j := 1) rfl, q⟩
  have mb : ((m : Nat) : Int).natAbs.log2 < 9000 := Nat.lt_of_lt_of_le (log_lt (b := 17) (by simp; omega) (by decide)) (by decide)
  have dig : ∀ z : Int, ∃ d : Nat, d < m ∧ z % (m : Nat) = (d : Nat) := fun z => by
    have h1 := Int.emod_nonneg z (show ((m : Nat) : Int) ≠ 0 by omega)
    have h2 := Int.emod_lt_of_pos z (show (0 : Int) < (m : Nat) by omega)
    exact ⟨(z % (m : Nat)).toNat, by omega, by omega⟩
  refine s_seq (s_if (b_test (t_op (t_op (t_var rfl (t_c (at0 hp (t_c ⟨_, _, rfl, rfl, ?_⟩))))))))
  refine ⟨_, rfl, if_b (fun c => ?_) (fun c => s_next ?_)⟩
  · refine s_seq ?_
    refine t_cb2 (t_op (t_var rfl (t_c (at0 hp (t_var rfl ⟨_, _, rfl, ⟨by omega, PyProof.noPylong_of_log2 mb⟩, fun r hr0 => ?_⟩)))))
    have hpr := same_new (o := HO.tup [V.int (x / (m : Nat)), V.int (x % (m : Nat))]) hr0 _ _ hp
    refine ⟨r, _, rfl, sqT upd_same, rfl, _, _, rfl, ?_⟩
    refine t_var rfl (t_c ⟨p, _, 0, 0, rfl, rfl, hpr, rfl, ?_⟩)
    refine ⟨_, _, rfl, g_name ⟨rfl, ?_⟩⟩
    refine s_ret (t_var rfl ?_)
    obtain ⟨d, hd, e⟩ := dig x
    rw [e]
    exact q d _ hd (bmut (sbut (same_new hr0))) ⟨_, _, upd_same, hy⟩
  · refine s_seq ?_
    refine t_op (t_cb1 (t_op (t_op (t_op (t_var rfl (t_c (at1 hp (t_c ⟨_, _, rfl, rfl, wide_mul (a := 40) (b := 16) hy (by decide) (by decide) (by decide) (by decide), t_c ⟨_, _, rfl, rfl, ?_⟩⟩)))))))) 
    refine .inl ⟨_, rfl, t_c ⟨_, _, rfl, rfl, (by decide : (0 : Int) < 2147483587), ?_⟩⟩
    have zb : ((y * 48271 + 10007) % 2147483587).natAbs < 2 ^ 31 := by
      have h1 := Int.emod_nonneg (y * 48271 + 10007) (show (2147483587 : Int) ≠ 0 by decide)
      have h2 := Int.emod_lt_of_pos (y * 48271 + 10007) (show (0 : Int) < 2147483587 by decide)
      omega
    refine t_var rfl (t_c ⟨p, _, 1, 1, rfl, rfl, hp, rfl, nx_of ?_⟩)
    have hp2 : (upd H p (.lst [V.int x, V.int ((y * 48271 + 10007) % 2147483587)])) p = some (.lst [.int x, .int ((y * 48271 + 10007) % 2147483587)]) := upd_same
    have b2 : SameBut p H (upd H p (.lst [V.int x, V.int ((y * 48271 + 10007) % 2147483587)])) := bmut (sbut (Same.refl H))
    refine s_ret (t_op (t_cb1 (t_op (t_op (t_cb1 (t_op (t_op (t_var rfl (t_c (at1 hp2 (t_op (t_var rfl (t_c (at1 hp2 ⟨_, _, rfl, rfl, wide_mul (a := 31) (b := 31) zb zb (by decide) (by decide) (by decide), ?_⟩))))))))))))))
    refine .inl ⟨_, rfl, t_c ⟨_, _, rfl, rfl, (by decide : (0 : Int) < 2147483549), t_c ⟨_, _, rfl, rfl, ⟨by decide, by decide +kernel⟩, ?_⟩⟩⟩
    refine .inl ⟨_, rfl, t_var rfl ⟨_, _, rfl, rfl, (show (0 : Int) < (m : Nat) by omega), ?_⟩⟩
    obtain ⟨d, hd, e⟩ := dig ((y * 48271 + 10007) % 2147483587 * ((y * 48271 + 10007) % 2147483587) % 2147483549 / 13)
    have fin : Q (.int ((y * 48271 + 10007) % 2147483587 * ((y * 48271 + 10007) % 2147483587) % 2147483549 / 13 % (m : Nat))) (upd H p (.lst [V.int x, V.int ((y * 48271 + 10007) % 2147483587)])) := by
      rw [e]; exact q d _ hd b2 ⟨_, _, hp2, Nat.lt_of_lt_of_le zb (by decide)⟩
    exact fin
/-- one of a list -/
def spPick (K : PySem.W.Frag) : Sp := fun vs H Q _ => ∃ (p l : Addr) (xs : List V), vs = [.ref p, .ref l] ∧ PotAt H p ∧ (∀ H', SameBut p H H' → SqL K H' l xs) ∧ 0 < xs.length ∧ xs.length < 1000 ∧ ∀ (d : Nat) x H', xs[d]? = some x → SameBut p H H' → PotAt H' p → Q x H'
theorem sql_but {K : PySem.W.Frag} {H H' : Hp} {p l : Addr} {xs : List V} (h : SqL K H l xs) (e : SameBut p H H') (n : l ≠ p) : SqL K H' l xs := by
  rcases h with (h | ⟨o, h⟩) | h
  · exact .inl (.inl (e _ _ n h))
  · exact .inl (.inr ⟨o, e _ _ n h⟩)
  · exact .inr h
theorem ok__law_pick (T : Txt K mg a fd C tk) : FnOk P w K mg base CX0 2 (a 28) (fd 28) ["_law_pot_here", "_law_menu"] (spPick K) := by
  have G__law_draw := ok__law_draw (P := P) (w := w) (base := base) T
  refine T.F__law_pick.ok sc__law_pick (fun vs H Q E h => by obtain ⟨_, _, _, rfl, _⟩ := h; rfl) (fun cdv A outer s H vs Q E hr h => ?_)
  obtain ⟨p, l, xs, rfl, hp, hl, x0, x1, q⟩ := h
  refine ⟨_, (pss_one (ps_ret (pe_ix (k_ix (K := K)) (pv 1) (pe_call G__law_draw (hr.mono (by omega)) (by rfl) T.m__law_draw T.F__law_draw.kp T.b__law_draw .nil pass0 (pa_cons (pv 0) (pa_cons (pe_callB (k_len (K := K)) (by rfl) T.z_len (by decide +kernel) (pa_cons (pv 1) pa_nil)) pa_nil))) (fun _ _ => rfl)))), ?_⟩
  refine s_ret (t_op (t_var rfl (t_call2 (t_var rfl (t_cb1 (t_var rfl ⟨l, xs, rfl, .inl (hl H (sbut (Same.refl H))), ⟨p, xs.length, rfl, hp, x0, by omega, fun d H' hd sb hp' => ?_⟩⟩))))))
  exact .inl ⟨l, xs, ((d : Nat) : Int), xs[d], rfl, rfl, hl H' sb, atI_nat (by simp [hd]), q d _ H' (by simp [hd]) sb hp'⟩
end
end K31

set_option maxRecDepth 100000
set_option maxHeartbeats 4000000
namespace K31
open PySem PySem.Spec PyProof.Rows L2 Kh
section
variable {P : Program} {w : World} {K : PySem.W.Frag} {mg : Str → Option Value} {base : Heap} {a : Nat → Addr} {fd : Nat → FuncData} {C : Addr} {tk : Nat → Tok}
theorem can_nums : ∀ ms : List Nat, PyData.canLayAll0 (ms.map nD) = true
  | [] => by simp [PyData.canLayAll0]
  | m :: ms => by rw [List.map_cons, PyData.canLayAll0, can_nums ms]; simp [nD, PyData.canLay0]
theorem dep_nums : ∀ ms : List Nat, PyData.depthAll (ms.map nD) = 0
  | [] => by simp [PyData.depthAll]
  | m :: ms => by rw [List.map_cons, PyData.depthAll, dep_nums ms]; simp [nD, PyData.depth]
theorem shaped_nL (ms : List Nat) : SeqAt.shaped (nL ms) = true := by
  unfold SeqAt.shaped nL
  rw [PyData.canLay0, can_nums, PyData.depth, dep_nums]; rfl
theorem eqv_nil (ms : List Nat) : PyData.eqv (nL ms) (.list []) = ms.isEmpty := by
  unfold nL
  rw [PyData.eqv]
  cases ms with
  | nil => rw [List.map_nil, PyData.eqvAll]; rfl
  | cons m ms => rw [List.map_cons, PyData.eqvAll]; rfl
theorem nats_dpa {H : Hp} : ∀ ns : List Nat, DpAll K H (ns.map fun n : Nat => V.int (n : Nat)) (ns.map nD)
  | [] => .nil
  | n :: ns => .cons (.int _) (nats_dpa ns)
theorem dpa_nats {H : Hp} : ∀ {ns : List Nat} {vs : List V}, DpAll K H vs (ns.map nD) → vs = ns.map fun n : Nat => V.int (n : Nat)
  | [], _, h => by cases h; rfl
  | n :: ns, _, h => by
    cases h with
    | cons h1 h2 => cases h1; rw [dpa_nats h2]; rfl
/-- the given numbers, in some order -/
def spMixed (K : PySem.W.Frag) : Sp := fun vs H Q _ => ∃ (S : Addr → Prop) (p : Addr) (v : V) (ns : List Nat), vs = [.ref p, v] ∧ Kn S H ∧ S p ∧ PotAt H p ∧ Dp K (off S H) v (nL ns) ∧ ns.length ≤ 100 ∧
  ∀ u H' ms, SameBut p H H' → PotAt H' p → ms.Perm ns → Dp K (off S H') u (nL ms) → Q u H'
theorem perm_erase {x : Nat} : ∀ {l : List Nat} {k : Nat}, l[k]? = some x → (x :: l.eraseIdx k).Perm l
  | [], k, h => by simp at h
  | y :: l, 0, h => by
    simp at h; subst h
    rw [List.eraseIdx_cons_zero]
  | y :: l, k + 1, h => by
    rw [List.eraseIdx_cons_succ]
    exact (List.Perm.swap y x _).trans ((perm_erase (l := l) (k := k) (by simpa using h)).cons y)
theorem erase_nats : ∀ (l : List Nat) (k : Nat), (l.map fun n : Nat => V.int (n : Nat)).eraseIdx k = (l.eraseIdx k).map fun n : Nat => V.int (n : Nat)
  | [], k => by simp
  | y :: l, 0 => by simp
  | y :: l, k + 1 => by simp [erase_nats l k]
theorem ok__law_mixed (T : Txt K mg a fd C tk) : FnOk P w K mg base CX0 2 (a 29) (fd 29) ["_law_pot_here", "_law_some"] (spMixed K) := by
  have G__law_draw := ok__law_draw (P := P) (w := w) (base := base) T
  refine T.F__law_mixed.ok sc__law_mixed (fun vs H Q E h => by obtain ⟨_, _, _, _, rfl, _⟩ := h; rfl) (fun cdv A outer s H vs Q E hr h => ?_)
  obtain ⟨S, p, v, ns, rfl, kn, hS, hp, hd, few, q⟩ := h
  refine ⟨_, (pss_cons (ps_par (i := 2) (j := 3) (by rfl) sc__law_mixed.nd rfl rfl (by decide) rfl rfl (pa_cons (pe_callTy (k_list (K := K)) (by rfl) T.z_list (by decide +kernel) (pa_cons (pv 1) pa_nil)) (pa_cons (pe_lst pa_nil) pa_nil)) (by rfl))
      (pss_cons (ps_while PassesOwn.never (pt_cmpR (k_neD (K := K) hr.units) (pv 2) (pe_lst pa_nil) (nomark _))
        (pss_one (ps_expr (pe_bm PySem.F.plainAttrs_list PySem.F.slot_list_append PySem.F.type_list_append mt_append (pv 3) (pa_cons (pe_bm PySem.F.plainAttrs_list PySem.F.slot_list_pop PySem.F.type_list_pop mt_popAt (pv 2) (pa_cons (pe_call G__law_draw (hr.mono (by omega)) (by rfl) T.m__law_draw T.F__law_draw.kp T.b__law_draw .nil pass0 (pa_cons (pv 0) (pa_cons (pe_callB (k_len (K := K)) (by rfl) T.z_len (by decide +kernel) (pa_cons (pv 2) pa_nil)) pa_nil))) pa_nil)) pa_nil)))))
      (pss_one (ps_ret (pv 3))))), ?_⟩
  refine s_seq (a_cons (t_cb1 (t_var rfl (list_d kn hd rfl fun L xs hL ha _ => a_cons (t_lst0 fun F hF => a_nil ⟨_, _, rfl, nx_of ?_⟩)))))
  have ex := dpa_nats ha
  subst ex
  have sL := same_new (o := HO.lst (ns.map fun n : Nat => V.int (n : Nat))) hL
  have sF := same_new (o := HO.lst []) hF
  have FL : L ≠ F := ne_of_none (upd_same (H := H)) hF
  have hF0 : H F = none := sL.free hF
  obtain ⟨x0, y0, hp0, _⟩ := id hp
  have pL : L ≠ p := fun e => by subst e; rw [hL] at hp0; cases hp0
  have pF : F ≠ p := fun e => by subst e; rw [hF0] at hp0; cases hp0
  have kb : ∀ {H' : Hp}, SameBut p H H' → PotAt H' p → Kn S H' := fun {H'} sb pt => kn_bt kn sb (by obtain ⟨_, _, h, _⟩ := pt; exact some_ne h)
  refine s_seq ⟨fun m σ H' => ∃ fs ls : List Nat, σ = [some (.ref p), some v, some (.ref L), some (.ref F)] ∧ H' L = some (.lst (ls.map fun n : Nat => V.int (n : Nat))) ∧ H' F = some (.lst (fs.map fun n : Nat => V.int (n : Nat))) ∧ PotAt H' p ∧ SameBut p H H' ∧ (fs ++ ls).Perm ns ∧ m = ls.length,
    ⟨_, [], ns, rfl, by rw [upd_ne FL]; exact upd_same, upd_same, ⟨x0, y0, by rw [upd_ne (Ne.symm pF), upd_ne (Ne.symm pL)]; exact hp0, by assumption⟩, sbut (sL.trans sF), List.Perm.refl _, rfl⟩, ?_⟩
  rintro m σ H' ⟨fs, ls, rfl, hL', hF', hp', sb, pm, rfl⟩
  have len := pm.length_eq
  rw [List.length_append] at len
  refine b_test (t_op (t_var rfl (t_lst0 fun E0 hE => ⟨nL ls, .list [], .lst (sqL (same_new hE _ _ hL')) (nats_dpa ls), .lst (sqL upd_same) .nil, shaped_nL ls, (by decide), ?_⟩)))
  have sE := same_new (o := HO.lst []) hE
  have hp1 : PotAt (upd H' E0 (.lst [])) p := by obtain ⟨x, y, h, hy⟩ := hp'; exact ⟨x, y, sE _ _ h, hy⟩
  have hL1 := sE _ _ hL'
  have hF1 := sE _ _ hF'
  have sb1 : SameBut p H (upd H' E0 (.lst [])) := fun b o n h => sE _ _ (sb b o n h)
  generalize upd H' E0 (.lst []) = H1 at *
  rw [eqv_nil]
  cases ls with
  | nil =>
    refine ⟨_, rfl, ifF rfl (nx_of (s_ret (t_var rfl (q _ H1 fs sb1 hp1 (by rw [List.append_nil] at pm; exact pm) (dp_lst ?_ hF1 (nats_dpa fs))))))⟩
    exact kn.new hF0
  | cons n0 lr =>
    refine ⟨_, rfl, ifT rfl ⟨fun σ' H'' => ∃ fs ls : List Nat, σ' = [some (.ref p), some v, some (.ref L), some (.ref F)] ∧ H'' L = some (.lst (ls.map fun n : Nat => V.int (n : Nat))) ∧ H'' F = some (.lst (fs.map fun n : Nat => V.int (n : Nat))) ∧ PotAt H'' p ∧ SameBut p H H'' ∧ (fs ++ ls).Perm ns ∧ ls.length < (n0 :: lr).length, ?_, ?_⟩⟩
    · rintro σ' H'' ⟨fs', ls', h1, h2, h3, h4, h5, h6, h7⟩
      exact ⟨_, h7, fs', ls', h1, h2, h3, h4, h5, h6, rfl⟩
    · refine s_drop (t_bm (t_var rfl ⟨.inl ⟨rfl, _, sqL hF1⟩, a_cons (t_bm (t_var rfl ⟨.inl ⟨rfl, _, sqL hL1⟩, a_cons (t_call2 (t_var rfl (t_cb1 (t_var rfl ⟨L, _, rfl, .inl (sqL hL1), p, (n0 :: lr).length, ?_, hp1, by simp, by omega, fun d H2 hd sb2 hp2 => ?_⟩))))⟩))⟩))
      · rw [List.length_map]
      · have hL2 := sb2 _ _ pL hL1
        have hF2 := sb2 _ _ pF hF1
        obtain ⟨x, hx⟩ : ∃ x, (n0 :: lr)[d]? = some x := ⟨_, List.getElem?_eq_getElem hd⟩
        refine a_nil ⟨L, _, (d : Nat), d, .int (x : Nat), rfl, rfl, hL2, by omega, by omega, ?_, ?_, a_nil ⟨F, _, _, rfl, rfl, by rw [upd_ne (Ne.symm FL)]; exact hF2, Nat.lt_of_le_of_lt (show (fs.map fun n : Nat => V.int (n : Nat)).length ≤ 100000 by rw [List.length_map]; omega) (by decide), ?_⟩⟩
        · refine (ixN_seq ?_).1
          unfold ixN
          rw [List.length_map, if_pos (by omega), if_pos (by omega), Int.toNat_natCast]
        · rw [List.getElem?_map, hx]; rfl
        · refine ⟨fs ++ [x], (n0 :: lr).eraseIdx d, rfl, ?_, ?_, ?_, ?_, ?_, ?_⟩
          · rw [upd_ne FL, upd_same, erase_nats]
          · rw [upd_same, List.map_append]; rfl
          · obtain ⟨x2, y2, h2, hy2⟩ := hp2
            exact ⟨x2, y2, by rw [upd_ne (Ne.symm pF), upd_ne (Ne.symm pL)]; exact h2, hy2⟩
          · intro b o n h
            rw [upd_ne (ne_of_none h hF0), upd_ne (ne_of_none h hL)]
            exact sb2 b o n (sb1 b o n h)
          · rw [List.append_assoc]
            exact ((perm_erase hx).append_left fs).trans pm
          · rw [List.length_eraseIdx, if_pos hd]; simp
theorem o_none {σ : L2.St} {H : Hp} {q : Option Int → Hp → Prop} (h : q none H) : tNoPart σ H q := h
theorem o_some {te : TE} {σ : L2.St} {H : Hp} {q : Option Int → Hp → Prop} (h : te σ H fun x H1 => ∃ i, x = .int i ∧ q (some i) H1) : tPart te σ H q := h
/-- many different houses -/
def spNames (K : PySem.W.Frag) : Sp := fun vs H Q _ => ∃ (S : Addr → Prop) (p : Addr) (m : Nat), vs = [.ref p, .int (m : Nat)] ∧ Kn S H ∧ S p ∧ PotAt H p ∧ m ≤ 24 ∧
  ∀ u H' ms, SameBut p H H' → PotAt H' p → ms.Nodup → (∀ n ∈ ms, n < 24) → ms.length = m → Dp K (off S H') u (nL ms) → Q u H'
theorem cut_take (xs : List V) (m : Nat) (h : m ≤ xs.length) : cutV xs none (some (m : Nat)) = xs.take m := by
  unfold cutV
  rw [HT.sIx_none, HT.sIx_nat, List.drop_zero]
  congr 1; omega
theorem ok__law_names (T : Txt K mg a fd C tk) : FnOk P w K mg base CX0 3 (a 30) (fd 30) ["_law_pot_here", "_law_many"] (spNames K) := by
  have G__law_mixed := ok__law_mixed (P := P) (w := w) (base := base) T
  refine T.F__law_names.ok sc__law_names (fun vs H Q E h => by obtain ⟨_, _, _, rfl, _⟩ := h; rfl) (fun cdv A outer s H vs Q E hr h => ?_)
  obtain ⟨S, p, m, rfl, kn, hS, hp, few, q⟩ := h
  refine ⟨_, (pss_one (ps_ret (pe_slice (k_sl (K := K)) (pe_call G__law_mixed (hr.mono (by omega)) (by rfl) T.m__law_mixed T.F__law_mixed.kp T.b__law_mixed .nil pass0 (pa_cons (pv 0) (pa_cons (pe_listRg rfl (by rfl) T.z_list (prg_1 (by rfl) T.z_range pe_int)) pa_nil))) po_none (po_some (pv 1))))), ?_⟩
  have erg : rgV 0 24 = (List.range 24).map fun n : Nat => V.int (n : Nat) := by
    unfold rgV
    exact List.map_congr_left fun n _ => by rw [Int.zero_add]
  refine s_ret (t_call2 (t_var rfl ⟨24, rfl, .of_le (by decide) (by decide) (by decide) (by decide), fun l hl => ?_⟩))
  rw [erg]
  have sl := same_new (o := HO.lst ((List.range 24).map fun n : Nat => V.int (n : Nat))) hl
  have hp1 : PotAt (upd H l (.lst ((List.range 24).map fun n : Nat => V.int (n : Nat)))) p := by obtain ⟨x, y, h, hy⟩ := hp; exact ⟨x, y, sl _ _ h, hy⟩
  refine ⟨S, p, _, List.range 24, rfl, kn.same sl, hS, hp1, dp_newL kn hl (nats_dpa _), by decide, fun u H' ms sb hp' pm du => ?_⟩
  obtain ⟨b, xs, rfl, hs, ha⟩ := list_at (ds := ms.map nD) du
  have ex := dpa_nats ha
  subst ex
  have len := pm.length_eq
  rw [List.length_range] at len
  have knH : Kn S H' := kn_bt (kn.same sl) sb (by obtain ⟨_, _, h, _⟩ := hp'; exact some_ne h)
  refine o_none (o_some (t_var rfl ⟨_, rfl, b, _, rfl, off_sub.seq hs, fun r hr0 => ?_⟩))
  rw [cut_take _ _ (by rw [List.length_map, len]; exact few), ← List.map_take]
  refine q _ _ (ms.take m) (fun c o n h => same_new hr0 _ _ (sb c o n (sl _ _ h))) ?_ ?_ ?_ ?_ (dp_newL knH hr0 (nats_dpa _))
  · obtain ⟨x, y, h, hy⟩ := hp'; exact ⟨x, y, same_new hr0 _ _ h, hy⟩
  · exact ((pm.nodup_iff).mpr List.nodup_range).sublist (List.take_sublist _ _)
  · intro n hn
    exact List.mem_range.mp (pm.mem_iff.mp (List.mem_of_mem_take hn))
  · rw [List.length_take, len]; omega
end
end K31

set_option maxRecDepth 100000
set_option maxHeartbeats 4000000
namespace K31
open PySem PySem.Spec PyProof.Rows L2 Kh
abbrev ivs (ns : List Nat) : List V := ns.map fun n : Nat => V.int (n : Nat)
theorem cut_drop (xs : List V) (m : Nat) (h : m ≤ xs.length) : cutV xs (some (m : Nat)) none = xs.drop m := by
  unfold cutV
  rw [HT.sIx_none, HT.sIx_nat, Nat.min_eq_left h, List.take_of_length_le (by rw [List.length_drop]; omega)]
theorem flat_set {n : Nat} : ∀ {gs : List (List Nat)} {d : Nat} {g : List Nat}, gs[d]? = some g → ((gs.set d (g ++ [n])).flatten).Perm (gs.flatten ++ [n])
  | [], d, g, h => by simp at h
  | g0 :: gs, 0, g, h => by
    simp at h; subst h
    show (g0 ++ [n] ++ gs.flatten).Perm (g0 ++ gs.flatten ++ [n])
    rw [List.append_assoc, List.append_assoc]
    exact (List.perm_append_comm).append_left g0
  | g0 :: gs, d + 1, g, h => by
    show (g0 ++ (gs.set d (g ++ [n])).flatten).Perm (g0 ++ gs.flatten ++ [n])
    rw [List.append_assoc]
    exact (flat_set (gs := gs) (d := d) (by simpa using h)).append_left g0
section
variable {P : Program} {w : World} {K : PySem.W.Frag} {mg : Str → Option Value} {base : Heap} {a : Nat → Addr} {fd : Nat → FuncData} {C : Addr} {tk : Nat → Tok}
theorem min2_of {H : Hp} {Q : VK} {i j m : Int} (e : (if j < i then j else i) = m) (q : Q (.int m) H) : rMin2 [.int i, .int j] H Q := ⟨i, j, rfl, by rw [e]; exact q⟩
theorem t_sl {r : V → Option Int → Option Int → Hp → VK → Prop} {te : TE} {tl th : TO} {σ : L2.St} {H : Hp} {Q : VK} (h : te σ H fun x H1 => tl σ H1 fun l H2 => th σ H2 fun u H3 => r x l u H3 Q) : tSl r te tl th σ H Q := h
def spParted (K : PySem.W.Frag) : Sp := fun vs H Q _ => ∃ (S : Addr → Prop) (p : Addr) (v : V) (ns : List Nat), vs = [.ref p, v] ∧ Kn S H ∧ S p ∧ PotAt H p ∧ Dp K (off S H) v (nL ns) ∧ 2 ≤ ns.length ∧ ns.length ≤ 24 ∧
  ∀ u H' (gs : List (List Nat)), SameBut p H H' → PotAt H' p → gs.flatten.Perm ns → (∀ g ∈ gs, g ≠ []) → 2 ≤ gs.length → gs.length ≤ 24 → Dp K (off S H') u (.list (gs.map nL)) → Q u H'
theorem ok__law_parted (T : Txt K mg a fd C tk) : FnOk P w K mg base CX0 3 (a 31) (fd 31) ["_law_pot_here", "_law_tags"] (spParted K) := by
  have G__law_draw := ok__law_draw (P := P) (w := w) (base := base) T
  have G__law_pick := ok__law_pick (P := P) (w := w) (base := base) T
  refine T.F__law_parted.ok sc__law_parted (fun vs H Q E h => by obtain ⟨_, _, _, _, rfl, _⟩ := h; rfl) (fun cdv A outer s H vs Q E hr h => ?_)
  obtain ⟨S, p, v, ns, rfl, kn, hS, hp, hd, n2, n24, q⟩ := h
  obtain ⟨tl, txs, rfl, hts, hta⟩ := list_at (ds := ns.map nD) hd
  have ex := dpa_nats hta
  subst ex
  refine ⟨_, (pss_cons (ps_set (i := 2) sc__law_parted.nd rfl (Or.inl rfl) (pe_callB (call_min2R rfl) (by rfl) T.z_min (by decide +kernel) (pa_cons (pe_callB (k_len (K := K)) (by rfl) T.z_len (by decide +kernel) (pa_cons (pv 1) pa_nil)) (pa_cons (pe_op op_add pe_int (pe_call G__law_draw (hr.mono (by omega)) (by rfl) T.m__law_draw T.F__law_draw.kp T.b__law_draw .nil pass0 (pa_cons (pv 0) (pa_cons pe_int pa_nil)))) pa_nil))))
      (pss_cons (ps_setLc (i := 3) (own := [("_law_name", 4)]) (g := gName 4) (tt := tYes) rfl sc__law_parted.nd rfl rfl (sw_true rfl rfl rfl (by decide +kernel)) (k_pi (K := K) (pe_slice (k_sl (K := K)) (pv 1) po_none (po_some (pv 2)))) (blkOk_by (own := [("_law_name", 4)]) (N := _law_parted_N) (sc := defScope _law_parted_s) (by decide +kernel)) (fun _ _ _ _ _ => (pg_name (i := 4) sc__law_parted.nd rfl (Or.inl rfl))) (fun _ _ _ _ _ => pts_nil) (fun _ _ _ _ _ => (pe_lst (pa_cons (pv 4) pa_nil))))
      (pss_cons (ps_for PassesOwn.never rfl (k_pi (K := K) (pe_slice (k_sl (K := K)) (pv 1) (po_some (pv 2)) po_none)) (pg_name (i := 4) sc__law_parted.nd rfl (Or.inl rfl))
        (pss_one (ps_expr (pe_bm PySem.F.plainAttrs_list PySem.F.slot_list_append PySem.F.type_list_append mt_append (pe_call G__law_pick (hr.mono (by omega)) (by rfl) T.m__law_pick T.F__law_pick.kp T.b__law_pick .nil pass0 (pa_cons (pv 0) (pa_cons (pv 3) pa_nil))) (pa_cons (pv 4) pa_nil)))))
      (pss_one (ps_ret (pv 3)))))), ?_⟩
  have tags : ∀ {H'}, SameBut p H H' → SqL K (off S H') tl (ivs ns) := fun {H'} sb => (off_bt hS sb).seq hts
  have knB : ∀ {H'}, SameBut p H H' → PotAt H' p → Kn S H' := fun {H'} sb pt => kn_bt kn sb (by obtain ⟨_, _, h, _⟩ := pt; exact some_ne h)
  have mm : ∀ d : Nat, ∃ m : Nat, (if (2 : Int) + (d : Nat) < ((ivs ns).length : Nat) then (2 : Int) + (d : Nat) else ((ivs ns).length : Nat)) = ((m : Nat) : Int) ∧ 2 ≤ m ∧ m ≤ ns.length := fun d => by
    rw [List.length_map]
    by_cases c : (2 : Int) + (d : Nat) < (ns.length : Nat)
    · exact ⟨2 + d, by rw [if_pos c]; omega, by omega, by omega⟩
    · exact ⟨ns.length, by rw [if_neg c], n2, Nat.le_refl _⟩
  refine s_seq (s_set (t_cb2 (t_cb1 (t_var rfl ⟨tl, _, rfl, .inl (off_sub.seq hts), t_op (t_c (t_call2 (t_var rfl (t_c ⟨p, 3, rfl, hp, by decide, by decide, fun d H1 hd3 sb1 hp1 => ⟨_, _, rfl, rfl, ?_⟩⟩))))⟩))))
  obtain ⟨m, hm, m2, mn⟩ := mm d
  refine min2_of hm (nx_of ?_)
  have kn1 := knB sb1 hp1
  -- the first ones, each in a list of its own
  refine s_seq (s_set (.inl (t_sl (t_var rfl (o_none (o_some (t_var rfl ⟨_, rfl, tl, _, rfl, off_sub.seq (tags sb1), fun r hr0 => ?_⟩)))))))
  rw [cut_take _ _ (by rw [List.length_map]; exact mn), ← List.map_take]
  have sr := same_new (o := HO.lst ((ns.take m).map fun n : Nat => V.int (n : Nat))) hr0
  have hrr : (upd H1 r (.lst ((ns.take m).map fun n : Nat => V.int (n : Nat)))) r = some (.lst (ivs (ns.take m))) := upd_same
  generalize upd H1 r (.lst ((ns.take m).map fun n : Nat => V.int (n : Nat))) = H2 at sr hrr
  refine ⟨r, rfl, ⟨_, sqL hrr⟩, fun F hF => ?_⟩
  have hF1 : H1 F = none := sr.free hF
  have rF : r ≠ F := ne_of_none hrr hF
  have lm : (ivs (ns.take m)).length = m := by rw [List.length_map, List.length_take]; omega
  refine lc_it (walk_list (K := K) (a := r) (xs := ivs (ns.take m))) (fun i H' => ∃ ls : List Addr, ls.length = i ∧ H' F = some (.lst (ls.map V.ref)) ∧ (∀ (k : Nat) l n, ls[k]? = some l → ns[k]? = some n → H' l = some (.lst [.int (n : Nat)])) ∧ ls.Nodup ∧ (∀ l ∈ ls, H2 l = none ∧ l ≠ F) ∧ Same H2 H')
    ⟨[], rfl, upd_same, fun k l n h => by simp at h, List.nodup_nil, fun l h => (by cases h), same_new hF⟩ (fun i H' _ ⟨_, _, _, _, _, _, s⟩ => sqL (s _ _ hrr)) ?_ ?_
  · rintro i x H3 H4 hi ⟨ls, ll, hF3, hls, nd, new, s3⟩ ⟨rfl, hx⟩
    rw [lm] at hi
    have hn : i < ns.length := by omega
    rw [List.getElem?_map, List.getElem?_take, if_pos hi, List.getElem?_eq_getElem hn] at hx
    obtain rfl := (Option.some.inj hx).symm
    refine ⟨rfl, t_yes (t_lst (a_cons (t_var rfl (a_nil ⟨le1, fun l hl => ?_⟩))))⟩
    have lF : l ≠ F := fun e => by subst e; rw [hF3] at hl; cases hl
    have sl := same_new (o := HO.lst [V.int (ns[i] : Nat)]) hl
    refine ⟨_, sl _ _ hF3, Nat.lt_of_le_of_lt (show (ls.map V.ref).length ≤ 100000 by rw [List.length_map]; omega) (by decide), ls ++ [l], by rw [List.length_append, ll]; rfl, ?_, ?_, ?_, ?_, ?_⟩
    · rw [upd_same, List.map_append]; rfl
    · intro k l' n h1 h2
      by_cases c : k < ls.length
      · rw [List.getElem?_append_left c] at h1
        have hm' := List.mem_of_getElem? h1
        rw [upd_ne (new l' hm').2]
        exact sl _ _ (hls k l' n h1 h2)
      · rw [List.getElem?_append_right (by omega)] at h1
        have e : k = i := by
          have := (List.getElem?_eq_some_iff.mp h1).1
          simp at this; omega
        subst e
        rw [show k - ls.length = 0 by omega] at h1
        cases h1
        rw [List.getElem?_eq_getElem hn] at h2
        cases h2
        rw [upd_ne lF, upd_same]
    · refine List.nodup_append.mpr ⟨nd, by simp, ?_⟩
      intro x hx y hy e
      rw [List.mem_singleton] at hy
      subst hy; subst e
      obtain ⟨k, hk⟩ := List.mem_iff_getElem?.mp hx
      have hkl := (List.getElem?_eq_some_iff.mp hk).1
      have := hls k x ns[k] hk (List.getElem?_eq_getElem (by omega))
      rw [hl] at this; cases this
    · intro l' hl'
      rcases List.mem_append.mp hl' with h | h
      · exact new l' h
      · rw [List.mem_singleton.mp h]; exact ⟨s3.free hl, lF⟩
    · exact smut (s3.trans sl) hF
  · rintro H3 ⟨ls, ll, hF3, hls, nd, new, s3⟩
    rw [lm] at ll
    refine nx_of ?_
    have hp3 : PotAt H3 p := by obtain ⟨x, y, h, hy⟩ := hp1; exact ⟨x, y, s3 _ _ (sr _ _ h), hy⟩
    have sb3 : SameBut p H H3 := fun b o n h => s3 _ _ (sr _ _ (sb1 b o n h))
    have Fp : F ≠ p := fun e => by subst e; obtain ⟨x, y, h, _⟩ := hp1; rw [hF1] at h; cases h
    have lsp : ∀ l ∈ ls, l ≠ p := fun l hl e => by subst e; obtain ⟨x, y, h, _⟩ := hp1; have := (new l hl).1; rw [sr.free this] at h; cases h
    refine s_seq (.inl (t_sl (t_var rfl (o_some (t_var rfl ⟨_, rfl, o_none ⟨tl, _, rfl, off_sub.seq (tags sb3), fun r2 hr2 => ?_⟩⟩)))))
    rw [cut_drop _ _ (by rw [List.length_map]; exact mn), ← List.map_drop]
    have s4 := same_new (o := HO.lst ((ns.drop m).map fun n : Nat => V.int (n : Nat))) hr2
    have hr4 : (upd H3 r2 (.lst ((ns.drop m).map fun n : Nat => V.int (n : Nat)))) r2 = some (.lst (ivs (ns.drop m))) := upd_same
    generalize upd H3 r2 (.lst ((ns.drop m).map fun n : Nat => V.int (n : Nat))) = H4 at s4 hr4
    have r2n : r2 ≠ p ∧ r2 ∉ ls ∧ r2 ≠ F := by
      refine ⟨fun e => ?_, fun e => ?_, fun e => ?_⟩
      · subst e; obtain ⟨x, y, h, _⟩ := hp3; rw [hr2] at h; cases h
      · obtain ⟨k, hk⟩ := List.mem_iff_getElem?.mp e
        have hkl := (List.getElem?_eq_some_iff.mp hk).1
        have := hls k r2 ns[k] hk (List.getElem?_eq_getElem (by omega))
        rw [hr2] at this; cases this
      · subst e; rw [hr2] at hF3; cases hF3
    have Fls : F ∉ ls := fun h => (new F h).2 rfl
    have ld : (ivs (ns.drop m)).length = ns.length - m := by rw [List.length_map, List.length_drop]
    refine ⟨r2, rfl, ⟨_, sqL hr4⟩, ?_⟩
    refine for_it (walk_list (K := K) (a := r2) (xs := ivs (ns.drop m))) (fun i σ' H' => ∃ (gs : List (List Nat)) (x4 : Option V), σ' = [some (.ref p), some (.ref tl), some (.int (m : Nat)), some (.ref F), x4] ∧ gs.length = ls.length ∧ (∀ (k : Nat) l g, ls[k]? = some l → gs[k]? = some g → H' l = some (.lst (ivs g)) ∧ g ≠ []) ∧
        gs.flatten.Perm (ns.take (m + i)) ∧ PotAt H' p ∧ (∀ b o, b ≠ p → b ∉ ls → H4 b = some o → H' b = some o))
      ⟨(ns.take m).map fun n => [n], _, rfl, by rw [List.length_map, List.length_take, ll]; omega, ?_, ?_, by obtain ⟨x, y, h, hy⟩ := hp3; exact ⟨x, y, s4 _ _ h, hy⟩, fun b o _ _ h => h⟩ (fun i σ' H' _ ⟨_, _, _, _, _, _, _, keep⟩ => sqL (keep r2 _ r2n.1 r2n.2.1 hr4)) ?_ ?_
    · intro k l g h1 h2
      rw [List.getElem?_map] at h2
      cases e : (ns.take m)[k]? with
      | none => rw [e] at h2; cases h2
      | some n =>
        rw [e] at h2
        cases h2
        have : ns[k]? = some n := by
          rw [List.getElem?_take] at e
          split at e
          · exact e
          · cases e
        exact ⟨s4 _ _ (hls k l n h1 this), by simp⟩
    · have e : ∀ l : List Nat, (l.map fun n => [n]).flatten = l := fun l => by
        induction l with
        | nil => rfl
        | cons x l ih => rw [List.map_cons, List.flatten_cons, ih]; rfl
      rw [e]; exact List.Perm.refl _
    · rintro i x σ' H5 H6 hi ⟨gs, x4, rfl, gl, hg, fl, pot, keep⟩ ⟨rfl, hx⟩
      rw [ld] at hi
      have hn : m + i < ns.length := by omega
      rw [List.getElem?_map, List.getElem?_drop, List.getElem?_eq_getElem hn] at hx
      obtain rfl := (Option.some.inj hx).symm
      have hF5 := keep F _ Fp Fls (s4 _ _ hF3)
      refine g_name (s_drop (t_bm (t_call2 (t_var rfl (t_var rfl ⟨p, F, ls.map V.ref, rfl, pot, fun H' sb => sqL (sb _ _ Fp hF5), by rw [List.length_map, ll]; omega, by rw [List.length_map, ll]; omega, fun d x H7 hd sb7 pot7 => ?_⟩)))))
      rw [List.getElem?_map] at hd
      cases ed : ls[d]? with
      | none => rw [ed] at hd; cases hd
      | some l =>
        rw [ed] at hd
        cases hd
        have hdl := (List.getElem?_eq_some_iff.mp ed).1
        have lm' := List.mem_of_getElem? ed
        obtain ⟨g, eg⟩ : ∃ g, gs[d]? = some g := ⟨_, List.getElem?_eq_getElem (by omega)⟩
        obtain ⟨hl5, gne⟩ := hg d l g ed eg
        have hl7 := sb7 _ _ (lsp l lm') hl5
        have glen : g.length ≤ 24 := by
          have h1 := fl.length_eq
          rw [List.length_take] at h1
          have h2 : g.length ≤ gs.flatten.length := (List.sublist_flatten_of_mem (List.mem_of_getElem? eg)).length_le
          omega
        refine ⟨.inl ⟨rfl, _, sqL hl7⟩, a_cons (t_var rfl (a_nil ⟨l, _, _, rfl, rfl, hl7, Nat.lt_of_le_of_lt (show (ivs g).length ≤ 100000 by rw [List.length_map]; omega) (by decide), ?_⟩))⟩
        refine ⟨gs.set d (g ++ [ns[m + i]]), _, rfl, by rw [List.length_set, gl], ?_, ?_, ?_, ?_⟩
        · intro k l' g' h1 h2
          by_cases c : k = d
          · subst c
            rw [ed] at h1; cases h1
            rw [List.getElem?_set_self (by omega)] at h2
            cases h2
            exact ⟨by rw [upd_same]; show _ = some (HO.lst (List.map _ (g ++ [ns[m + i]]))); rw [List.map_append]; rfl, by simp⟩
          · rw [List.getElem?_set_ne (Ne.symm c)] at h2
            have ne : l' ≠ l := fun e => by
              subst e
              have h3 := (List.getElem?_eq_some_iff.mp h1).1
              have e1 : ls[k] = ls[d] := by
                have a1 := (List.getElem?_eq_some_iff.mp h1).2
                have a2 := (List.getElem?_eq_some_iff.mp ed).2
                rw [a1, a2]
              exact c ((List.getElem_inj (h₀ := h3) (h₁ := hdl) nd).mp e1)
            obtain ⟨h5, h6⟩ := hg k l' g' h1 h2
            exact ⟨by rw [upd_ne ne]; exact sb7 _ _ (lsp l' (List.mem_of_getElem? h1)) h5, h6⟩
        · refine (flat_set eg).trans ?_
          rw [← Nat.add_assoc, List.take_add_one, List.getElem?_eq_getElem hn]
          exact fl.append_right _
        · obtain ⟨x, y, h, hy⟩ := pot7
          exact ⟨x, y, by rw [upd_ne (Ne.symm (lsp l lm'))]; exact h, hy⟩
        · intro b o b1 b2 h
          rw [upd_ne (fun e => b2 (by subst e; exact lm'))]
          exact sb7 _ _ b1 (keep b o b1 b2 h)
    · rintro σ' H5 ⟨gs, x4, rfl, gl, hg, fl, pot, keep⟩
      rw [ld, show m + (ns.length - m) = ns.length by omega, List.take_length] at fl
      have hF5 := keep F _ Fp Fls (s4 _ _ hF3)
      refine nx_of (s_ret (t_var rfl (q _ H5 gs ?_ pot fl ?_ (by omega) (by omega) (dp_lst ?_ hF5 ?_))))
      · intro b o n h
        refine keep b o n (fun hb => ?_) (s4 _ _ (sb3 b o n h))
        have := (new b hb).1
        rw [sr _ _ (sb1 b o n h)] at this; cases this
      · intro g hg'
        obtain ⟨k, hk⟩ := List.mem_iff_getElem?.mp hg'
        have hkl := (List.getElem?_eq_some_iff.mp hk).1
        exact (hg k ls[k] g (List.getElem?_eq_getElem (by omega)) hk).2
      · exact kn1.new hF1
      · refine dpa_of (by rw [List.length_map, List.length_map, gl]) fun i v d h1 h2 => ?_
        rw [List.getElem?_map] at h1 h2
        cases e1 : ls[i]? with
        | none => rw [e1] at h1; cases h1
        | some l =>
          cases e2 : gs[i]? with
          | none => rw [e2] at h2; cases h2
          | some g =>
            rw [e1] at h1; rw [e2] at h2
            cases h1; cases h2
            have hl := hg i l g e1 e2
            exact dp_lst (fun z => kn1 l z (sr.free (new l (List.mem_of_getElem? e1)).1)) hl.1 (nats_dpa g)
end
end K31

set_option maxRecDepth 100000
set_option maxHeartbeats 4000000
namespace K31
open PySem PySem.Spec PyProof.Rows L2 Kh
theorem sb_trans {D : Addr} {H H1 H2 : Hp} (x : SameBut D H H1) (y : SameBut D H1 H2) : SameBut D H H2 := fun b o n h => y b o n (x b o n h)
theorem PotAt.same {p : Addr} {H H' : Hp} (h : PotAt H p) (e : Same H H') : PotAt H' p := by obtain ⟨x, y, h, hy⟩ := h; exact ⟨x, y, e _ _ h, hy⟩
theorem PotAt.some {p : Addr} {H : Hp} (h : PotAt H p) : H p ≠ none := by obtain ⟨x, y, h, hy⟩ := h; exact some_ne h
theorem off_plusB {S : Addr → Prop} {p D : Addr} {H1 H : Hp} (hS : S p) (hD : H1 D = none) (s : SameBut p H1 H) : Same (off S H1) (off (plus S D) H) := fun b o h => by
  obtain ⟨n, h⟩ := off_some h
  rw [off_out]
  · exact s b o (fun z => n (z ▸ hS)) h
  · rintro (z | rfl)
    · exact n z
    · rw [hD] at h; cases h
theorem off_keep {S : Addr → Prop} {p : Addr} {H H' : Hp} (hS : S p) (e : SameBut p H H') : Same (off S H) H' := (off_bt hS e).trans off_sub
section
variable {K : PySem.W.Frag} {S : Addr → Prop} {p : Addr} {H1 : Hp} {σ : L2.St} {te : TE} {sl : Nat} {vs : List Nat} {Qd : VK} {J : It} {n : Nat} {G : Hp → Prop} {Y : Nat → Hp → V → Hp → Prop}
/-- [e for ..], e a tree that is drawn -/
theorem lc_pot0 (Xp : Nat → V → (Addr → Prop) → Hp → Prop) (Good : Nat → Kh.T → Prop) (hS : S p) (kn : Kn S H1) (hp : PotAt H1 p) (w : Walk J n G Y) (hG : ∀ H', SameBut p H1 H' → G H') (hn : n ≤ 1000) (hw : ∀ x, wipe ((wipe σ vs).set sl (some x)) vs = wipe σ vs)
    (hY : ∀ D i H x H', H1 D = none → i < n → SameBut p H1 H → Y i H x H' → H' = H ∧ Xp i x (plus S D) H)
    (body : ∀ j x H S', j < n → SameBut p H1 H → PotAt H p → Kn S' H → S' p → Xp j x S' H → ∀ Q : VK, (∀ y H' t, SameBut p H H' → PotAt H' p → Good j t → Dp K (off S' H') y (tD t) → Q y H') → te ((wipe σ vs).set sl (some x)) H Q)
    (done : ∀ D H (ys : List V) (ts : List Kh.T), SameBut p H1 H → PotAt H p → ts.length = n → (∀ j t, ts[j]? = some t → Good j t) → H D = some (.lst ys) → Dp K (off S H) (.ref D) (.list (ts.map tD)) → Qd (.ref D) H) :
    ∀ D, H1 D = none → ∃ W : Nat → Nat → Hp → Prop, (∃ m, W 0 m (upd H1 D (.lst []))) ∧ ∀ i m H, W i m H →
      (J.stop i H ∧ Qd (.ref D) H) ∨ (J.go i H ∧ ∃ Nx : Hp → Prop, (∀ H', Nx H' → ∃ m', m' < m ∧ W (i + 1) m' H') ∧ ∀ x H', J.yld i H x H' → gName sl x (wipe σ vs) H' fun σ2 H2 => wipe σ2 vs = wipe σ vs ∧ tYes σ2 H2 fun b H3 =>
        if b = true then te σ2 H3 fun y H4 => ∃ acc, H4 D = some (.lst acc) ∧ acc.length < sizeLine ∧ Nx (upd H4 D (.lst (acc ++ [y]))) else Nx H3) := by
  intro D hD
  have Dp' : D ≠ p := fun e => by subst e; exact hp.some hD
  refine lc_it (Qd := Qd (.ref D)) w (fun i H' => ∃ (ys : List V) (ts : List Kh.T), ts.length = i ∧ (∀ j t, ts[j]? = some t → Good j t) ∧ DpAll K (off (plus S D) H') ys (ts.map tD) ∧ SameBut p H1 H' ∧ PotAt H' p ∧ H' D = some (.lst ys)) ⟨[], [], rfl, fun j t h => by simp at h, .nil, sbut (same_new hD), hp.same (same_new hD), upd_same⟩ (fun i H _ ⟨_, _, _, _, _, s, _⟩ => hG H s) ?_ ?_
  · rintro i x H H' hi ⟨ys, ts, hl, good, da, sb, pot, hd⟩ y
    obtain ⟨rfl, xp⟩ := hY D i H x H' hD hi sb y
    have knH : Kn (plus S D) H' := (kn_bt kn sb pot.some).plus (some_ne hd)
    refine ⟨hw x, t_yes (body i x H' (plus S D) hi sb pot knH (.inl hS) xp _ fun z H3 t s3 pot3 gt dz => ?_)⟩
    have hd3 := s3 _ _ Dp' hd
    have hl2 := dpa_len da
    rw [List.length_map] at hl2
    refine ⟨ys, hd3, Nat.lt_of_le_of_lt (show ys.length ≤ 100000 by omega) (by decide), ys ++ [z], ts ++ [t], by simp [hl], ?_, ?_, ?_, ?_, upd_same⟩
    · intro j u hj
      by_cases c : j < ts.length
      · rw [List.getElem?_append_left c] at hj
        exact good j u hj
      · rw [List.getElem?_append_right (by omega)] at hj
        have e : j - ts.length = 0 := by
          have := (List.getElem?_eq_some_iff.mp hj).1
          simpa using this
        rw [e] at hj
        cases hj
        rw [show j = i by omega]; exact gt
    · rw [off_mut (show plus S D D from .inr rfl), List.map_append]
      exact dpa_app (dpa_same (off_bt (.inl hS) s3) _ _ da) (.cons dz .nil)
    · exact fun b o n h => by rw [upd_ne (ne_of_none h hD)]; exact s3 b o n (sb b o n h)
    · obtain ⟨x, y, h, hy⟩ := pot3
      exact ⟨x, y, by rw [upd_ne (Ne.symm Dp')]; exact h, hy⟩
  · rintro H ⟨ys, ts, hl, good, da, sb, pot, hd⟩
    exact done D H ys ts sb pot hl good hd (dp_lst (kn.new hD) hd (dpa_same off_fin _ _ da))
end
/-- .. over a list of data -/
theorem lc_pot {K : PySem.W.Frag} {S : Addr → Prop} {p : Addr} {H : Hp} {σ : L2.St} {t te : TE} {sl : Nat} {vs : List Nat} {Q : VK} (Pd : List PyData → Prop) (Good : PyData → Kh.T → Prop) (hS : S p) (kn : Kn S H)
    (hev : ∀ Q : VK, (∀ u H1 ds, SameBut p H H1 → PotAt H1 p → Pd ds → Dp K (off S H1) u (.list ds) → Q u H1) → t σ H Q) (hn : ∀ ds, Pd ds → ds.length ≤ 1000) (hw : ∀ x, wipe ((wipe σ vs).set sl (some x)) vs = wipe σ vs)
    (body : ∀ x d H1 S', SameBut p H H1 → PotAt H1 p → Kn S' H1 → S' p → Dp K (off S' H1) x d → (∃ ds, Pd ds ∧ d ∈ ds) → ∀ Q : VK, (∀ y H' t, SameBut p H1 H' → PotAt H' p → Good d t → Dp K (off S' H') y (tD t) → Q y H') → te ((wipe σ vs).set sl (some x)) H1 Q)
    (done : ∀ D H1 (ds : List PyData) (ts : List Kh.T), SameBut p H H1 → PotAt H1 p → Pd ds → ts.length = ds.length → (∀ (j : Nat) d t, ds[j]? = some d → ts[j]? = some t → Good d t) → Dp K (off S H1) (.ref D) (.list (ts.map tD)) → Q (.ref D) H1) :
    tLc (fun σ H R => iList K t σ H R ∨ iTup K t σ H R) (gName sl) tYes te vs σ H Q := by
  refine .inl (hev _ fun u H1 ds s1 pot pd du => ?_)
  obtain ⟨ra, xs, rfl, hsq, ha⟩ := list_at du
  have ln := dpa_len ha
  have kn1 := kn_bt kn s1 pot.some
  refine ⟨ra, rfl, ⟨xs, off_sub.seq hsq⟩, ?_⟩
  refine lc_pot0 (K := K) (n := xs.length) (G := fun H' => SqL K H' ra xs) (Y := YAt xs) (fun i x S' H' => ∃ d, ds[i]? = some d ∧ Dp K (off S' H') x d) (fun j t => ∃ d, ds[j]? = some d ∧ Good d t) hS kn1 pot walk_list (fun H' sb => (off_keep hS sb).seq hsq) (by rw [ln]; exact hn ds pd) hw (fun D i H2 x H3 hD hi sb y => ⟨y.1, ?_⟩) (fun j x H2 S' hj sb pot2 kn2 hS' xp Q q => ?_) (fun D H2 ys ts sb pot2 hl good hd hD => ?_)
  · obtain ⟨d, dj, dx⟩ := dpa_at ha y.2
    exact ⟨d, dj, dp_same (off_plusB hS hD sb) _ _ dx⟩
  · obtain ⟨d, dj, dx⟩ := xp
    exact body x d H2 S' (sb_trans s1 sb) pot2 kn2 hS' dx ⟨ds, pd, List.mem_of_getElem? dj⟩ Q fun y H' t s' pt g dy => q y H' t s' pt ⟨d, dj, g⟩ dy
  · refine done D H2 ds ts (sb_trans s1 sb) pot2 pd (by rw [hl, ln]) (fun j d t hj ht => ?_) hD
    obtain ⟨d', hd', g⟩ := good j t ht
    rw [hj] at hd'; cases hd'; exact g
section
variable {P : Program} {w : World} {K : PySem.W.Frag} {mg : Str → Option Value} {base : Heap} {a : Nat → Addr} {fd : Nat → FuncData} {C : Addr} {tk : Nat → Tok}
/-- what plain draws -/
structure PlainOf (ns : List Nat) (deep : Nat) (t : Kh.T) : Prop where
  fl : flg false t = t
  wf : Wf t
  dp : dep t ≤ deep
  lv : (lv t).Perm ns
def spPlain (K : PySem.W.Frag) (d : Nat) : Sp := fun vs H Q _ => ∃ (S : Addr → Prop) (p : Addr) (v : V) (ns : List Nat) (deep : Nat), vs = [.ref p, v, .int (deep : Nat)] ∧ Kn S H ∧ S p ∧ PotAt H p ∧ Dp K (off S H) v (nL ns) ∧ 1 ≤ ns.length ∧ ns.length ≤ 24 ∧ (∀ n ∈ ns, n < 24) ∧ deep < d ∧ (1 ≤ deep ∨ ns.length = 1) ∧
  ∀ u H' t, SameBut p H H' → PotAt H' p → PlainOf ns deep t → Dp K (off S H') u (tD t) → Q u H'
theorem leaves_lv : ∀ ns : List Nat, (ns.map Kh.T.leaf).flatMap lv = ns
  | [] => rfl
  | n :: ns => by rw [List.map_cons, List.flatMap_cons, lv_leaf, leaves_lv ns]; rfl
theorem leaves_tD (ns : List Nat) : (ns.map Kh.T.leaf).map tD = ns.map nD := by
  rw [List.map_map]; exact List.map_congr_left fun n _ => by show tD (.leaf n) = nD n; rw [tD_leaf]; rfl
/-- a gate of drawn parts -/
theorem plain_gate {ns : List Nat} {gs : List (List Nat)} {ts : List Kh.T} {deep k : Nat} (hk : 1 ≤ k) (hk2 : k ≤ ts.length) (fl : gs.flatten.Perm ns) (len : ts.length = gs.length) (h : ∀ (j : Nat) g t, gs[j]? = some g → ts[j]? = some t → PlainOf g deep t) : PlainOf ns (deep + 1) (.gate false k ts) := by
  have each : ∀ t ∈ ts, ∃ g, PlainOf g deep t := fun t ht => by
    obtain ⟨j, hj⟩ := List.mem_iff_getElem?.mp ht
    have := (List.getElem?_eq_some_iff.mp hj).1
    exact ⟨gs[j], h j _ t (List.getElem?_eq_getElem (by omega)) hj⟩
  refine ⟨?_, (wf_gate _ _ _).mpr ⟨hk, hk2, fun t ht => (each t ht).elim fun _ e => e.wf⟩, (dep_gate _ _ _).mpr fun t ht => (each t ht).elim fun _ e => e.dp, ?_⟩
  · rw [flg_gate]
    congr 1
    exact (List.map_congr_left fun t ht => (each t ht).elim fun _ e => e.fl).trans (List.map_id ts)
  · rw [lv_gate]
    refine List.Perm.trans ?_ fl
    have go : ∀ (ts : List Kh.T) (gs : List (List Nat)), ts.length = gs.length → (∀ (j : Nat) g t, gs[j]? = some g → ts[j]? = some t → PlainOf g deep t) → (ts.flatMap lv).Perm gs.flatten := by
      intro ts
      induction ts with
      | nil => intro gs hl _; rw [List.eq_nil_of_length_eq_zero hl.symm]; exact List.Perm.refl _
      | cons t ts ih =>
        intro gs hl hh
        cases gs with
        | nil => simp at hl
        | cons g gs =>
          rw [List.flatMap_cons, List.flatten_cons]
          exact ((hh 0 g t rfl rfl).lv).append (ih gs (by simpa using hl) fun j g t h1 h2 => hh (j + 1) g t (by simpa using h1) (by simpa using h2))
    exact go ts gs len h
theorem nL_inj {g h : List Nat} (e : nL g = nL h) : g = h := by
  have e1 : g.map nD = h.map nD := PyData.list.inj e
  have go : ∀ g h : List Nat, g.map nD = h.map nD → g = h := by
    intro g
    induction g with
    | nil => intro h e; cases h with
      | nil => rfl
      | cons y h => cases e
    | cons x g ih => intro h e; cases h with
      | nil => cases e
      | cons y h =>
        have e3 := List.cons.inj e
        have e4 := PyData.int.inj e3.1
        rw [ih h e3.2, show x = y by omega]
  exact go g h e1
theorem dec_int (n m : Nat) : decide (V.int (n : Nat) = V.int (m : Nat)) = decide (n = m) := decide_eq_decide.mpr ⟨fun h => by have := V.int.inj h; omega, fun h => by rw [h]⟩
theorem ok__law_plain (T : Txt K mg a fd C tk) : ∀ d, FnOk P w K mg base CX0 (d + 3) (a 32) (fd 32) ["_law_pot_here", "_law_tags", "_law_deep"] (spPlain K d)
  | 0 => fn_none fun _ _ _ _ h => by obtain ⟨_, _, _, _, _, _, _, _, _, _, _, _, _, h, _⟩ := h; exact Nat.not_lt_zero _ h
  | d + 1 => by
    have G__law_plain := ok__law_plain T d
    have G__law_draw := ok__law_draw (P := P) (w := w) (base := base) T
    have G__law_parted := ok__law_parted (P := P) (w := w) (base := base) T
    refine T.F__law_plain.ok sc__law_plain (fun vs H Q E h => by obtain ⟨_, _, _, _, _, rfl, _⟩ := h; rfl) (fun cdv A outer s H vs Q E hr h => ?_)
    obtain ⟨S, p, v, ns, deep, rfl, kn, hS, hp, hd, n1, n24, lt24, hdd, hor, q⟩ := h
    refine ⟨_, (pss_cons (ps_if (PW.pt (pw_and (pt_cmpR op_eq (pe_callB (k_len (K := K)) (by rfl) T.z_len (by decide +kernel) (pa_cons (pv 1) pa_nil)) pe_int (nomark _)) (pw_and1 (PW.pt (pw_or (pt_cmpR op_eq (pv 2) pe_int (nomark _)) (pw_or1 (pt_cmpR op_gt (pe_call G__law_draw (hr.mono (by omega)) (by rfl) T.m__law_draw T.F__law_draw.kp T.b__law_draw .nil pass0 (pa_cons (pv 0) (pa_cons pe_int pa_nil))) pe_int (nomark _))))))))
        (pss_one (ps_ret (pe_ix (k_ix (K := K)) (pv 1) pe_int (fun _ _ => rfl)))) pss_nil)
      (pss_cons (ps_if (pt_cmpR op_eq (pe_callB (k_len (K := K)) (by rfl) T.z_len (by decide +kernel) (pa_cons (pv 1) pa_nil)) pe_int (nomark _))
        (pss_one (ps_ret (pe_tup (pa_cons pe_str (pa_cons pe_int (pa_cons (pe_lst (pa_cons (pe_call G__law_plain (hr.mono (by omega)) (by rfl) T.m__law_plain T.F__law_plain.kp T.b__law_plain .nil pass0 (pa_cons (pv 0) (pa_cons (pv 1) (pa_cons (pe_op op_sub (pv 2) pe_int) pa_nil)))) pa_nil)) pa_nil)))))) pss_nil)
      (pss_cons (ps_if (pt_cmpR op_lt (pv 2) pe_int (nomark _))
        (pss_one (ps_ret (pe_tup (pa_cons pe_str (pa_cons (pe_op op_add pe_int (pe_call G__law_draw (hr.mono (by omega)) (by rfl) T.m__law_draw T.F__law_draw.kp T.b__law_draw .nil pass0 (pa_cons (pv 0) (pa_cons (pe_callB (k_len (K := K)) (by rfl) T.z_len (by decide +kernel) (pa_cons (pv 1) pa_nil)) pa_nil)))) (pa_cons (pe_callTy (k_list (K := K)) (by rfl) T.z_list (by decide +kernel) (pa_cons (pv 1) pa_nil)) pa_nil)))))) pss_nil)
      (pss_cons (ps_setLc (i := 3) (own := [("_law_part", 4)]) (g := gName 4) (tt := tYes) rfl sc__law_plain.nd rfl rfl (sw_true rfl rfl rfl (by decide +kernel)) (k_pi (K := K) (pe_call G__law_parted (hr.mono (by omega)) (by rfl) T.m__law_parted T.F__law_parted.kp T.b__law_parted .nil pass0 (pa_cons (pv 0) (pa_cons (pv 1) pa_nil)))) (blkOk_by (own := [("_law_part", 4)]) (N := _law_plain_N) (sc := defScope _law_plain_s) (by decide +kernel)) (fun _ _ _ _ _ => (pg_name (i := 4) sc__law_plain.nd rfl (Or.inl rfl))) (fun _ _ _ _ _ => pts_nil) (fun _ _ _ _ _ => (pe_call G__law_plain (hr.mono (by omega)) (by rfl) T.m__law_plain T.F__law_plain.kp T.b__law_plain .nil pass0 (pa_cons (pv 0) (pa_cons (pv 4) (pa_cons (pe_op op_sub (pv 2) pe_int) pa_nil))))))
      (pss_one (ps_ret (pe_tup (pa_cons pe_str (pa_cons (pe_op op_add pe_int (pe_call G__law_draw (hr.mono (by omega)) (by rfl) T.m__law_draw T.F__law_draw.kp T.b__law_draw .nil pass0 (pa_cons (pv 0) (pa_cons (pe_callB (k_len (K := K)) (by rfl) T.z_len (by decide +kernel) (pa_cons (pv 3) pa_nil)) pa_nil)))) (pa_cons (pv 3) pa_nil)))))))))), ?_⟩
    have knB : ∀ {H'}, SameBut p H H' → PotAt H' p → Kn S H' := fun {H'} sb pt => kn_bt kn sb pt.some
    have hdB : ∀ {H'}, SameBut p H H' → Dp K (off S H') v (nL ns) := fun {H'} sb => dp_same (off_bt hS sb) _ _ hd
    -- a single one
    have one : ∀ {H'} {n : Nat}, ns = [n] → SameBut p H H' → PotAt H' p → ∀ {Q' : VK}, (∀ u H', SameBut p H H' → PotAt H' p → Dp K (off S H') u (tD (.leaf n)) → Q' u H') → rIx K v (.int 0) H' Q' := by
      intro H' n e sb pt Q' q'
      subst e
      refine ix_d (i := 0) off_sub (hdB sb) rfl rfl fun u du => q' u H' sb pt ?_
      rw [tD_leaf]; exact du
    have leaf1 : ∀ {n : Nat} {dd : Nat}, ns = [n] → PlainOf ns dd (.leaf n) := fun {n dd} e => by
      subst e
      exact ⟨flg_leaf _ _, by rw [Wf]; exact lt24 n (by simp), by simp [dep], by rw [lv_leaf]⟩
    refine s_seq (s_if (b_and (b_test (t_op (t_cb1 (t_var rfl (len_d off_sub hd (ds := ns.map nD) rfl (t_c ⟨rfl, _, rfl, ?_⟩))))))))
    rw [List.length_map]
    by_cases l1 : ns.length = 1
    · obtain ⟨n, en⟩ : ∃ n, ns = [n] := by
        match ns, l1 with
        | [n], _ => exact ⟨n, rfl⟩
      refine ifT ((dec_int ns.length 1).trans (decide_eq_true l1)) (b_or (b_test (t_op (t_var rfl (t_c ⟨rfl, _, rfl, ?_⟩)))))
      by_cases d0 : deep = 0
      · refine ifT ((dec_int deep 0).trans (decide_eq_true d0)) (ifT rfl (s_ret (t_op (t_var rfl (t_c (one en (sbut (Same.refl _)) hp fun u H' sb pt du => q u H' _ sb pt (leaf1 en) du))))))
      · refine ifF ((dec_int deep 0).trans (decide_eq_false d0)) (b_test (t_op (t_call2 (t_var rfl (t_c ⟨p, 5, rfl, hp, by decide, by decide, fun r H1 hr5 sb1 pt1 => t_c ⟨_, _, rfl, rfl, _, rfl, ?_⟩⟩)))))
        refine if_b (fun c => s_ret (t_op (t_var rfl (t_c (one en sb1 pt1 fun u H' sb pt du => q u H' _ sb pt (leaf1 en) du))))) (fun c => s_next ?_)
        refine s_seq (s_if (b_test (t_op (t_cb1 (t_var rfl (len_d off_sub (hdB sb1) (ds := ns.map nD) rfl (t_c ⟨rfl, _, rfl, ?_⟩)))))))
        rw [List.length_map]
        refine ifT ((dec_int ns.length 1).trans (decide_eq_true l1)) ?_
        refine s_ret (t_tup (a_cons (t_c (a_cons (t_c (a_cons (t_lst (a_cons (t_call3 (t_var rfl (t_var rfl (t_op (t_var rfl (t_c ⟨_, _, rfl, rfl, ?_⟩))))))))))))))
        have e1 : ((deep : Nat) : Int) - 1 = ((deep - 1 : Nat) : Int) := by omega
        refine ⟨S, p, v, ns, deep - 1, (by show [V.ref p, v, V.int ((deep : Nat) - 1)] = _; rw [e1]), knB sb1 pt1, hS, pt1, hdB sb1, n1, n24, lt24, by omega, .inr l1, fun u H2 t sb2 pt2 pl du => ⟨le1, fun x hx => ?_⟩⟩
        have kn2 := knB (sb_trans sb1 sb2) pt2
        have sx := same_new (o := HO.lst [u]) hx
        have dl := dp_newL kn2 hx (.cons du .nil)
        refine ⟨le3, fun y hy => q _ _ (.gate false 1 [t]) (fun b o n h => same_new hy _ _ (sx _ _ (sb_trans sb1 sb2 b o n h))) ((pt2.same sx).same (same_new hy)) ?_ ?_⟩
        · have := plain_gate (ns := ns) (gs := [ns]) (ts := [t]) (deep := deep - 1) (k := 1) (Nat.le_refl _) (Nat.le_refl _) (by simp) rfl (fun j g t' h1 h2 => by
            match j with
            | 0 => cases h1; cases h2; exact pl
            | j + 1 => simp at h1)
          rwa [show deep - 1 + 1 = deep by omega] at this
        · rw [tD_gate]
          exact dp_newT (kn2.same sx) hy (.cons (.str _) (.cons (.int 1) (.cons dl .nil)))
    · have l2 : 2 ≤ ns.length := by omega
      refine ifF ((dec_int ns.length 1).trans (decide_eq_false l1)) (ifF rfl (s_next ?_))
      refine s_seq (s_if (b_test (t_op (t_cb1 (t_var rfl (len_d off_sub hd (ds := ns.map nD) rfl (t_c ⟨rfl, _, rfl, ?_⟩)))))))
      rw [List.length_map]
      refine ifF ((dec_int ns.length 1).trans (decide_eq_false l1)) (s_next ?_)
      refine s_seq (s_if (b_test (t_op (t_var rfl (t_c ⟨_, _, rfl, rfl, _, rfl, ?_⟩)))))
      have dr : ∀ {m : Nat} {r : Nat}, r < m → (1 : Int) + (r : Nat) = ((1 + r : Nat) : Int) := fun {m r} _ => by omega
      refine if_b (fun c => ?_) (fun c => s_next ?_)
      · refine s_ret (t_tup (a_cons (t_c (a_cons (t_op (t_c (t_call2 (t_var rfl (t_cb1 (t_var rfl (len_d off_sub hd (ds := ns.map nD) rfl ?_)))))))))))
        rw [List.length_map]
        refine ⟨p, ns.length, rfl, hp, by omega, by omega, fun r H1 hr1 sb1 pt1 => ⟨_, _, rfl, rfl, ?_⟩⟩
        refine a_cons (t_cb1 (t_var rfl (list_d (knB sb1 pt1) (hdB sb1) rfl fun l xs hl ha dl => a_nil ⟨le3, fun y hy => ?_⟩)))
        have sl := same_new (o := HO.lst xs) hl
        refine q _ _ (.gate false (1 + r) (ns.map Kh.T.leaf)) (fun b o n h => same_new hy _ _ (sl _ _ (sb1 b o n h))) ((pt1.same sl).same (same_new hy)) ⟨?_, ?_, ?_, ?_⟩ ?_
        · rw [flg_gate, List.map_map]
          congr 1
        · refine (wf_gate _ _ _).mpr ⟨by omega, by rw [List.length_map]; omega, fun t ht => ?_⟩
          obtain ⟨n, hn, rfl⟩ := List.mem_map.mp ht
          rw [Wf]; exact lt24 n hn
        · obtain ⟨e, he⟩ : ∃ e, deep = e + 1 := ⟨deep - 1, by omega⟩
          rw [he]
          refine (dep_gate _ _ _).mpr fun t ht => ?_
          obtain ⟨n, hn, rfl⟩ := List.mem_map.mp ht
          simp [dep]
        · rw [lv_gate, leaves_lv]
        · rw [tD_gate, leaves_tD]
          refine dp_newT ((knB sb1 pt1).same sl) hy (.cons (.str _) (.cons (dp_int (by omega)) (.cons dl .nil)))
      · have d2 : 2 ≤ deep := by have := of_decide_eq_false c; omega
        refine s_seq (s_set (lc_pot (Pd := fun ds => ∃ gs : List (List Nat), ds = gs.map nL ∧ gs.flatten.Perm ns ∧ (∀ g ∈ gs, g ≠ []) ∧ 2 ≤ gs.length ∧ gs.length ≤ 24) (Good := fun d t => ∃ g, d = nL g ∧ PlainOf g (deep - 1) t) hS kn (fun Q' q' => ?_) (fun ds h => ?_) (fun _ => rfl) (fun x dd H1 S' sb1 pt1 kn1 hS' dx hds Q' q' => ?_) fun D H1 ds ts sb1 pt1 pd hl good dD => ?_))
        · refine t_call2 (t_var rfl (t_var rfl ⟨S, p, v, ns, rfl, kn, hS, hp, hd, l2, n24, fun u H1 gs sb1 pt1 fl ne g2 g24 du => q' u H1 _ sb1 pt1 ⟨gs, rfl, fl, ne, g2, g24⟩ du⟩))
        · obtain ⟨gs, rfl, _, _, _, g24⟩ := h
          rw [List.length_map]; omega
        · obtain ⟨ds, ⟨gs, rfl, fl, ne, g2, g24⟩, hm⟩ := hds
          obtain ⟨g, hg, rfl⟩ := List.mem_map.mp hm
          have sub := List.sublist_flatten_of_mem hg
          have e1 : ((deep : Nat) : Int) - 1 = ((deep - 1 : Nat) : Int) := by omega
          refine t_call3 (t_var rfl (t_var rfl (t_op (t_var rfl (t_c ⟨_, _, rfl, rfl, S', p, x, g, deep - 1, (by show [V.ref p, x, V.int ((deep : Nat) - 1)] = _; rw [e1]), kn1, hS', pt1, dx, List.length_pos_iff.mpr (ne g hg), ?_, fun n hn => ?_, by omega, .inl (by omega), fun u H2 t sb2 pt2 pl du => q' u H2 t sb2 pt2 ⟨g, rfl, pl⟩ du⟩)))))
          · have := sub.length_le
            rw [fl.length_eq] at this; omega
          · exact lt24 n (fl.mem_iff.mp (sub.subset hn))
        · obtain ⟨gs, rfl, fl, ne, g2, g24⟩ := pd
          rw [List.length_map] at hl
          have kn1 := knB sb1 pt1
          refine s_ret (t_tup (a_cons (t_c (a_cons (t_op (t_c (t_call2 (t_var rfl (t_cb1 (t_var rfl (len_d off_sub dD rfl ?_)))))))))))
          rw [List.length_map]
          refine ⟨p, ts.length, rfl, pt1, by omega, by omega, fun r H2 hr2 sb2 pt2 => ⟨_, _, rfl, rfl, a_cons (t_var rfl (a_nil ⟨le3, fun y hy => ?_⟩))⟩⟩
          have dD2 := dp_same (off_bt hS sb2) _ _ dD
          have kn2 := knB (sb_trans sb1 sb2) pt2
          refine q _ _ (.gate false (1 + r) ts) (fun b o n h => same_new hy _ _ (sb_trans sb1 sb2 b o n h)) (pt2.same (same_new hy)) ?_ ?_
          · have := plain_gate (ns := ns) (gs := gs) (ts := ts) (deep := deep - 1) (k := 1 + r) (by omega) (by omega) fl hl (fun j g t h1 h2 => by
              obtain ⟨g', e, pl⟩ := good j (nL g) t (by rw [List.getElem?_map, h1]; rfl) h2
              have e2 : g = g' := nL_inj e
              rw [e2]; exact pl)
            rwa [show deep - 1 + 1 = deep by omega] at this
          · rw [tD_gate]
            exact dp_newT kn2 hy (.cons (.str _) (.cons (dp_int (by omega)) (.cons dD2 .nil)))
end
end K31

set_option maxRecDepth 100000
set_option maxHeartbeats 4000000
namespace K31
open PySem PySem.Spec PyProof.Rows L2 Kh
section
variable {P : Program} {w : World} {K : PySem.W.Frag} {mg : Str → Option Value} {base : Heap} {a : Nat → Addr} {fd : Nat → FuncData} {C : Addr} {tk : Nat → Tok}
/-- what any draws -/
structure AnyOf (ns : List Nat) (deep : Nat) (t : Kh.T) : Prop where
  fl : flg false t = t
  wf : Wf t
  dp : dep t ≤ deep
  lv : ∀ n ∈ lv t, n ∈ ns
  len : (Kh.lv t).length ≤ 3 ^ deep
theorem r_rng {ta : TA} {σ : L2.St} {H : Hp} {R : It → Hp → Prop} (h : ta σ H fun vs H1 => ∃ j : Int, vs = [.int j] ∧ -(2 ^ 62) ≤ j ∧ j < 2 ^ 62 ∧ R (Itr 0 j.toNat) H1) : iRng1 ta σ H R := h
theorem lc_potR {K : PySem.W.Frag} {S : Addr → Prop} {p : Addr} {H : Hp} {σ : L2.St} {ta : TA} {te : TE} {sl : Nat} {vs : List Nat} {Q : VK} (Pn : Nat → Prop) (Xp : V → (Addr → Prop) → Hp → Prop) (Good : Kh.T → Prop) (hS : S p) (kn : Kn S H)
    (hev : ∀ q : List V → Hp → Prop, (∀ H1 (n : Nat), SameBut p H H1 → PotAt H1 p → Pn n → q [.int (n : Nat)] H1) → ta σ H q) (hn : ∀ n, Pn n → n ≤ 1000) (hw : ∀ x, wipe ((wipe σ vs).set sl (some x)) vs = wipe σ vs)
    (hX : ∀ D H1 x, H D = none → SameBut p H H1 → Xp x (plus S D) H1)
    (body : ∀ x H1 S', SameBut p H H1 → PotAt H1 p → Kn S' H1 → S' p → Xp x S' H1 → ∀ Q : VK, (∀ y H' t, SameBut p H1 H' → PotAt H' p → Good t → Dp K (off S' H') y (tD t) → Q y H') → te ((wipe σ vs).set sl (some x)) H1 Q)
    (done : ∀ D H1 (n : Nat) (ts : List Kh.T), SameBut p H H1 → PotAt H1 p → Pn n → ts.length = n → (∀ t ∈ ts, Good t) → Dp K (off S H1) (.ref D) (.list (ts.map tD)) → Q (.ref D) H1) :
    tLc (iRng1 ta) (gName sl) tYes te vs σ H Q := by
  refine hev _ fun H1 n s1 pot pn => ⟨(n : Nat), rfl, by have := hn n pn; omega, by have := hn n pn; omega, ?_⟩
  have kn1 := kn_bt kn s1 pot.some
  refine lc_pot0 (K := K) (n := n) (G := fun _ => True) (Y := YFn fun i => .int (0 + i)) (fun i x S' H' => Xp x S' H') (fun j t => Good t) hS kn1 pot walk_range (fun _ _ => trivial) (hn n pn) hw (fun D i H2 x H3 hD hi sb y => ⟨y.1, ?_⟩) (fun j x H2 S' hj sb pot2 kn2 hS' xp Q q => body x H2 S' (sb_trans s1 sb) pot2 kn2 hS' xp Q q) (fun D H2 ys ts sb pot2 hl good hd hD => ?_)
  · exact hX D H2 x (by
      by_cases e : D = p
      · subst e; exact (pot.some hD).elim
      · cases h : H D with
        | none => rfl
        | some o => rw [s1 D o e h] at hD; cases hD) (sb_trans s1 sb)
  · refine done D H2 n ts (sb_trans s1 sb) pot2 pn hl (fun t ht => ?_) hD
    obtain ⟨j, hj⟩ := List.mem_iff_getElem?.mp ht
    exact good j t hj
def spAny (K : PySem.W.Frag) (d : Nat) : Sp := fun vs H Q _ => ∃ (S : Addr → Prop) (p : Addr) (v : V) (ns : List Nat) (deep : Nat), vs = [.ref p, v, .int (deep : Nat)] ∧ Kn S H ∧ S p ∧ PotAt H p ∧ Dp K (off S H) v (nL ns) ∧ 1 ≤ ns.length ∧ ns.length ≤ 24 ∧ (∀ n ∈ ns, n < 24) ∧ deep < d ∧
  ∀ u H' t, SameBut p H H' → PotAt H' p → AnyOf ns deep t → Dp K (off S H') u (tD t) → Q u H'
theorem any_gate {ns : List Nat} {ts : List Kh.T} {deep k : Nat} (hk : 1 ≤ k) (hk2 : k ≤ ts.length) (hl : ts.length ≤ 3) (h : ∀ t ∈ ts, AnyOf ns deep t) : AnyOf ns (deep + 1) (.gate false k ts) := by
  refine ⟨?_, (wf_gate _ _ _).mpr ⟨hk, hk2, fun t ht => (h t ht).wf⟩, (dep_gate _ _ _).mpr fun t ht => (h t ht).dp, fun n hn => ?_, ?_⟩
  · rw [flg_gate]
    congr 1
    exact (List.map_congr_left fun t ht => (h t ht).fl).trans (List.map_id ts)
  · rw [lv_gate] at hn
    obtain ⟨t, ht, hn⟩ := List.mem_flatMap.mp hn
    exact (h t ht).lv n hn
  · rw [lv_gate, Nat.pow_succ]
    have go : ∀ us : List Kh.T, (∀ t ∈ us, AnyOf ns deep t) → (us.flatMap lv).length ≤ 3 ^ deep * us.length := by
      intro us
      induction us with
      | nil => intro _; exact Nat.zero_le _
      | cons t us ih =>
        intro hh
        rw [List.flatMap_cons, List.length_append, List.length_cons, Nat.mul_add, Nat.mul_one]
        have h1 := (hh t List.mem_cons_self).len
        have h2 := ih fun u hu => hh u (List.mem_cons_of_mem _ hu)
        omega
    exact Nat.le_trans (go ts h) (Nat.mul_le_mul_left _ hl)
theorem ok__law_any (T : Txt K mg a fd C tk) : ∀ d, FnOk P w K mg base CX0 (d + 3) (a 33) (fd 33) ["_law_pot_here", "_law_tags", "_law_deep"] (spAny K d)
  | 0 => fn_none fun _ _ _ _ h => by obtain ⟨_, _, _, _, _, _, _, _, _, _, _, _, _, h, _⟩ := h; exact Nat.not_lt_zero _ h
  | d + 1 => by
    have G__law_any := ok__law_any T d
    have G__law_draw := ok__law_draw (P := P) (w := w) (base := base) T
    have G__law_pick := ok__law_pick (P := P) (w := w) (base := base) T
    refine T.F__law_any.ok sc__law_any (fun vs H Q E h => by obtain ⟨_, _, _, _, _, rfl, _⟩ := h; rfl) (fun cdv A outer s H vs Q E hr h => ?_)
    obtain ⟨S, p, v, ns, deep, rfl, kn, hS, hp, hd, n1, n24, lt24, hdd, q⟩ := h
    refine ⟨_, (pss_cons (ps_if (PW.pt (pw_or (pt_cmpR op_eq (pv 2) pe_int (nomark _)) (pw_or1 (pt_cmpR op_eq (pe_call G__law_draw (hr.mono (by omega)) (by rfl) T.m__law_draw T.F__law_draw.kp T.b__law_draw .nil pass0 (pa_cons (pv 0) (pa_cons pe_int pa_nil))) pe_int (nomark _)))))
        (pss_one (ps_ret (pe_call G__law_pick (hr.mono (by omega)) (by rfl) T.m__law_pick T.F__law_pick.kp T.b__law_pick .nil pass0 (pa_cons (pv 0) (pa_cons (pv 1) pa_nil))))) pss_nil)
      (pss_cons (ps_setLc (i := 3) (own := [("_law_turn", 4)]) (g := gName 4) (tt := tYes) rfl sc__law_any.nd rfl rfl (sw_true rfl rfl rfl (by decide +kernel)) (pi_range1 (by rfl) T.z_range (pa_cons (pe_op op_add pe_int (pe_call G__law_draw (hr.mono (by omega)) (by rfl) T.m__law_draw T.F__law_draw.kp T.b__law_draw .nil pass0 (pa_cons (pv 0) (pa_cons pe_int pa_nil)))) pa_nil)) (blkOk_by (own := [("_law_turn", 4)]) (N := _law_any_N) (sc := defScope _law_any_s) (by decide +kernel)) (fun _ _ _ _ _ => (pg_name (i := 4) sc__law_any.nd rfl (Or.inl rfl))) (fun _ _ _ _ _ => pts_nil) (fun _ _ _ _ _ => (pe_call G__law_any (hr.mono (by omega)) (by rfl) T.m__law_any T.F__law_any.kp T.b__law_any .nil pass0 (pa_cons (pv 0) (pa_cons (pv 1) (pa_cons (pe_op op_sub (pv 2) pe_int) pa_nil))))))
      (pss_one (ps_ret (pe_tup (pa_cons pe_str (pa_cons (pe_op op_add pe_int (pe_call G__law_draw (hr.mono (by omega)) (by rfl) T.m__law_draw T.F__law_draw.kp T.b__law_draw .nil pass0 (pa_cons (pv 0) (pa_cons (pe_callB (k_len (K := K)) (by rfl) T.z_len (by decide +kernel) (pa_cons (pv 3) pa_nil)) pa_nil)))) (pa_cons (pv 3) pa_nil)))))))), ?_⟩
    have knB : ∀ {H'}, SameBut p H H' → PotAt H' p → Kn S H' := fun {H'} sb pt => kn_bt kn sb pt.some
    have hdB : ∀ {H'}, SameBut p H H' → Dp K (off S H') v (nL ns) := fun {H'} sb => dp_same (off_bt hS sb) _ _ hd
    obtain ⟨tl, txs, rfl, hts, hta⟩ := list_at (ds := ns.map nD) hd
    have ex := dpa_nats hta
    subst ex
    have pick : ∀ {H1 : Hp}, SameBut p H H1 → PotAt H1 p → spPick K [.ref p, .ref tl] H1 Q E0 := fun {H1} sb pt => by
      refine ⟨p, tl, _, rfl, pt, fun H' sb' => off_sub.seq ((off_bt hS (sb_trans sb sb')).seq hts), by rw [List.length_map]; omega, by rw [List.length_map]; omega, fun d x H2 hx sb2 pt2 => ?_⟩
      rw [List.getElem?_map] at hx
      cases e : ns[d]? with
      | none => rw [e] at hx; cases hx
      | some n =>
        rw [e] at hx
        cases hx
        have hm := List.mem_of_getElem? e
        refine q _ H2 (.leaf n) (sb_trans sb sb2) pt2 ⟨flg_leaf _ _, by rw [Wf]; exact lt24 n hm, by simp [dep], fun m hm' => by rw [lv_leaf] at hm'; rw [List.mem_singleton.mp hm']; exact hm, by rw [lv_leaf]; exact Nat.one_le_pow _ _ (by decide)⟩ ?_
        rw [tD_leaf]; exact .int _
    refine s_seq (s_if (b_or (b_test (t_op (t_var rfl (t_c ⟨rfl, _, rfl, ?_⟩))))))
    by_cases d0 : deep = 0
    · exact ifT ((dec_int deep 0).trans (decide_eq_true d0)) (ifT rfl (s_ret (t_call2 (t_var rfl (t_var rfl (pick (sbut (Same.refl H)) hp))))))
    · refine ifF ((dec_int deep 0).trans (decide_eq_false d0)) (b_test (t_op (t_call2 (t_var rfl (t_c ⟨p, 4, rfl, hp, by decide, by decide, fun r H1 hr4 sb1 pt1 => t_c ⟨rfl, _, rfl, ?_⟩⟩)))))
      refine if_b (fun c => s_ret (t_call2 (t_var rfl (t_var rfl (pick sb1 pt1))))) (fun c => s_next ?_)
      have kn1 := knB sb1 pt1
      refine s_seq (s_set ?_)
      refine lc_potR (K := K) (Pn := fun n => 1 ≤ n ∧ n ≤ 3) (Xp := fun _ S' H' => Dp K (off S' H') (.ref tl) (nL ns)) (Good := fun t => AnyOf ns (deep - 1) t) hS kn1 (fun q' h' => ?_) (fun n h => by omega) (fun _ => rfl) (fun D H3 x hD sb => dp_same (off_plusB hS hD sb) _ _ (hdB sb1)) (fun x H3 S' sb pt kn3 hS' dt Q' q' => ?_) fun D H3 n ts sb pt hpn hl good dD => ?_
      · refine a_cons (t_op (t_c (t_call2 (t_var rfl (t_c ⟨p, 3, rfl, pt1, by decide, by decide, fun r3 H2 hr3 sb2 pt2 => ⟨_, _, rfl, rfl, a_nil ?_⟩⟩)))))
        have e3 : (1 : Int) + (r3 : Nat) = ((1 + r3 : Nat) : Int) := by omega
        have := h' H2 (1 + r3) sb2 pt2 ⟨by omega, by omega⟩
        rw [← e3] at this
        exact this
      · have e1 : ((deep : Nat) : Int) - 1 = ((deep - 1 : Nat) : Int) := by omega
        exact t_call3 (t_var rfl (t_var rfl (t_op (t_var rfl (t_c ⟨_, _, rfl, rfl, S', p, .ref tl, ns, deep - 1, (by show [V.ref p, V.ref tl, V.int ((deep : Nat) - 1)] = _; rw [e1]), kn3, hS', pt, dt, n1, n24, lt24, by omega, fun u H4 t sb4 pt4 an du => q' u H4 t sb4 pt4 an du⟩)))))
      · have sb3 := sb_trans sb1 sb
        have kn3 := knB sb3 pt
        refine nx_of (s_ret (t_tup (a_cons (t_c (a_cons (t_op (t_c (t_call2 (t_var rfl (t_cb1 (t_var rfl (len_d off_sub dD rfl ?_))))))))))))
        rw [List.length_map]
        refine ⟨p, ts.length, rfl, pt, by omega, by omega, fun r5 H4 hr5 sb4 pt4 => ⟨_, _, rfl, rfl, a_cons (t_var rfl (a_nil ⟨le3, fun y hy => ?_⟩))⟩⟩
        have dD4 := dp_same (off_bt hS sb4) _ _ dD
        refine q _ _ (.gate false (1 + r5) ts) (fun b o n h => same_new hy _ _ (sb_trans sb3 sb4 b o n h)) (pt4.same (same_new hy)) ?_ ?_
        · have := any_gate (ns := ns) (ts := ts) (deep := deep - 1) (k := 1 + r5) (by omega) (by omega) (by omega) good
          rwa [show deep - 1 + 1 = deep by omega] at this
        · rw [tD_gate]
          exact dp_newT (knB (sb_trans sb3 sb4) pt4) hy (.cons (.str _) (.cons (dp_int (by omega)) (.cons dD4 .nil)))
end
end K31

set_option maxRecDepth 100000
set_option maxHeartbeats 4000000
namespace K31
open PySem PySem.Spec PyProof.Rows L2 Kh
theorem sub_len : ∀ {l ns : List Nat}, l.Nodup → (∀ n ∈ l, n ∈ ns) → l.length ≤ ns.length
  | [], _, _, _ => Nat.zero_le _
  | x :: l, ns, nd, h => by
    have hx := h x List.mem_cons_self
    have nd' := List.nodup_cons.mp nd
    have ih := sub_len (l := l) (ns := ns.erase x) nd'.2 fun n hn => (List.mem_erase_of_ne (fun e : n = x => nd'.1 (by rw [← e]; exact hn))).mpr (h n (List.mem_cons_of_mem _ hn))
    rw [List.length_erase_of_mem hx] at ih
    have := List.length_pos_of_mem hx
    rw [List.length_cons]; omega
/-- what shape draws -/
structure ShpOf (most : Nat) (t : Kh.T) : Prop where
  fl : flg false t = t
  wf : Wf t
  dp : dep t ≤ 3
  len : (lv t).length ≤ 9
  mem : (mem t).length ≤ most
section
variable {P : Program} {w : World} {K : PySem.W.Frag} {mg : Str → Option Value} {base : Heap} {a : Nat → Addr} {fd : Nat → FuncData} {C : Addr} {tk : Nat → Tok}
def spShp (K : PySem.W.Frag) : Sp := fun vs H Q _ => ∃ (S : Addr → Prop) (p : Addr) (most : Nat), vs = [.ref p, .int (most : Nat)] ∧ Kn S H ∧ S p ∧ PotAt H p ∧ 1 ≤ most ∧ most ≤ 6 ∧
  ∀ u H' t, SameBut p H H' → PotAt H' p → ShpOf most t → Dp K (off S H') u (tD t) → Q u H'
theorem ok__law_shape (T : Txt K mg a fd C tk) : FnOk P w K mg base CX0 8 (a 34) (fd 34) ["_law_pot_here", "_law_most"] (spShp K) := by
  have G__law_any := ok__law_any (P := P) (w := w) (base := base) T 3
  have G__law_plain := ok__law_plain (P := P) (w := w) (base := base) T 4
  have G__law_draw := ok__law_draw (P := P) (w := w) (base := base) T
  have G__law_names := ok__law_names (P := P) (w := w) (base := base) T
  refine T.F__law_shape.ok sc__law_shape (fun vs H Q E h => by obtain ⟨_, _, _, rfl, _⟩ := h; rfl) (fun cdv A outer s H vs Q E hr h => ?_)
  obtain ⟨S, p, most, rfl, kn, hS, hp, m1, m6, q⟩ := h
  refine ⟨_, (pss_cons (ps_set (i := 2) sc__law_shape.nd rfl (Or.inl rfl) (pe_call G__law_names (hr.mono (by omega)) (by rfl) T.m__law_names T.F__law_names.kp T.b__law_names .nil pass0 (pa_cons (pv 0) (pa_cons (pe_op op_add pe_int (pe_call G__law_draw (hr.mono (by omega)) (by rfl) T.m__law_draw T.F__law_draw.kp T.b__law_draw .nil pass0 (pa_cons (pv 0) (pa_cons (pv 1) pa_nil)))) pa_nil))))
      (pss_one (ps_ret (pe_ifExp (pt_cmpR op_eq (pe_call G__law_draw (hr.mono (by omega)) (by rfl) T.m__law_draw T.F__law_draw.kp T.b__law_draw .nil pass0 (pa_cons (pv 0) (pa_cons pe_int pa_nil))) pe_int (nomark _)) (pe_call G__law_any (hr.mono (by omega)) (by rfl) T.m__law_any T.F__law_any.kp T.b__law_any .nil pass0 (pa_cons (pv 0) (pa_cons (pv 2) (pa_cons pe_int pa_nil)))) (pe_call G__law_plain (hr.mono (by omega)) (by rfl) T.m__law_plain T.F__law_plain.kp T.b__law_plain .nil pass0 (pa_cons (pv 0) (pa_cons (pv 2) (pa_cons pe_int pa_nil)))))))), ?_⟩
  have knB : ∀ {H'}, SameBut p H H' → PotAt H' p → Kn S H' := fun {H'} sb pt => kn_bt kn sb pt.some
  refine s_seq (s_set (t_call2 (t_var rfl (t_op (t_c (t_call2 (t_var rfl (t_var rfl ⟨p, most, rfl, hp, by omega, by omega, fun r H1 hr1 sb1 pt1 => ⟨_, _, rfl, rfl, ?_⟩⟩))))))))
  have e1 : (1 : Int) + (r : Nat) = ((1 + r : Nat) : Int) := by omega
  refine ⟨S, p, 1 + r, (by show [V.ref p, V.int (1 + (r : Nat))] = _; rw [e1]), knB sb1 pt1, hS, pt1, by omega, fun u H2 ns sb2 pt2 nd lt24 hl du => nx_of ?_⟩
  have sb12 := sb_trans sb1 sb2
  have kn2 := knB sb12 pt2
  have mm : ∀ {t : Kh.T}, (∀ n ∈ lv t, n ∈ ns) → Wf t → (mem t).length ≤ most := fun {t} h wf => by
    have := sub_len (mem_nodup t) (ns := ns) fun n hn => h n ((mem_iff wf n).mp hn)
    omega
  refine s_ret (t_if (b_test (t_op (t_call2 (t_var rfl (t_c ⟨p, 3, rfl, pt2, by decide, by decide, fun r2 H3 hr3 sb3 pt3 => t_c ⟨rfl, _, rfl, ?_⟩⟩))))))
  have sb13 := sb_trans sb12 sb3
  have du3 := dp_same (off_bt hS sb3) _ _ du
  refine if_b (fun c => ?_) (fun c => ?_)
  · refine t_call3 (t_var rfl (t_var rfl (t_c ⟨S, p, u, ns, 2, rfl, knB sb13 pt3, hS, pt3, du3, by omega, by omega, lt24, by decide, fun v H4 t sb4 pt4 an dv => q v H4 t (sb_trans sb13 sb4) pt4 ⟨an.fl, an.wf, Nat.le_succ_of_le an.dp, an.len, mm an.lv an.wf⟩ dv⟩)))
  · refine t_call3 (t_var rfl (t_var rfl (t_c ⟨S, p, u, ns, 3, rfl, knB sb13 pt3, hS, pt3, du3, by omega, by omega, lt24, by decide, .inl (by decide), fun v H4 t sb4 pt4 pl dv => q v H4 t (sb_trans sb13 sb4) pt4 ⟨pl.fl, pl.wf, pl.dp, by rw [pl.lv.length_eq]; omega, mm (fun n hn => pl.lv.mem_iff.mp hn) pl.wf⟩ dv⟩)))
end
end K31

set_option maxRecDepth 100000
set_option maxHeartbeats 4000000
namespace K31
open PySem PySem.Spec PyProof.Rows L2 Kh
section
variable {P : Program} {w : World} {K : PySem.W.Frag} {mg : Str → Option Value} {base : Heap} {a : Nat → Addr} {fd : Nat → FuncData} {C : Addr} {tk : Nat → Tok}
/-- a tree, or a house -/
def PartAt (K : PySem.W.Frag) (C : Addr) (H : Hp) (v : V) (t : Kh.T) : Prop := (∃ x, v = .ref x ∧ TreeAt K C H t x ∧ Okt t) ∨ (∃ n : Nat, v = .int (n : Nat) ∧ t = .leaf n ∧ n < 24)
theorem PartAt.same {H H' : Hp} {v : V} {t : Kh.T} (h : PartAt K C H v t) (e : Same H H') : PartAt K C H' v t := h.imp (fun ⟨x, h1, h2, h3⟩ => ⟨x, h1, h2.same e, h3⟩) id
def spOfI (K : PySem.W.Frag) (C : Addr) : Sp := fun vs H Q _ => ∃ (S : Addr → Prop) (p : Addr) (rest : List V) (ts : List Kh.T) (k : Nat), vs = [.int (k : Nat), .ref p] ∧ Kn S H ∧ H p = some (.tup rest) ∧ rest.length = ts.length ∧ (∀ (i : Nat) v t, rest[i]? = some v → ts[i]? = some t → PartAt K C (off S H) v t) ∧
  1 ≤ k ∧ k ≤ ts.length ∧ ts.length ≤ 3 ∧ Okt (.gate false k ts) ∧ ∀ z H', Same H H' → TreeAt K C (off S H') (.gate false k ts) z → Q (.ref z) H'
theorem flg_all (ts : List Kh.T) (k : Nat) : flg true (.gate false k (ts.map (flg false))) = flg true (.gate false k ts) := by
  rw [flg_gate, flg_gate, List.map_map]
  congr 1
  exact List.map_congr_left fun t _ => flg_flg true false t
/-- Tree.of(k, ..) -/
def spOf (K : PySem.W.Frag) (C : Addr) : Sp := fun vs H Q E => ∃ ws rest, vs = ws ++ rest ∧ ws.length = 1 ∧ rest.length ≤ sizeLine ∧ ∀ p, H p = none → spOfI K C (ws ++ [V.ref p]) (upd H p (.tup rest)) Q E
theorem ok_Tree_of (T : Txt K mg a fd C tk) (U : TxC K mg a C) (D : TxD K C) : FnR P w K mg base CX0 10 (a 14) (spOf K C) := by
  have G_Tree_init := ok_Tree_init (P := P) (w := w) (base := base) T U
  have G_Tree_shape := ok_Tree_shapeN (P := P) (w := w) (base := base) T U
  have G_is_number_below : FnOk P w K mg base CX0 3 (a 3) (fd 3) ["value", "many"] (spBelow K) := ok_is_number_below T
  have G_is_count : FnOk P w K mg base CX0 2 (a 1) (fd 1) ["value"] (spIsCount K) := ok_is_count T
  obtain ⟨pS, hpS⟩ := U.p_shape
  obtain ⟨oc, od, kV, doc, pm, an, cdv, ct, osl, hfd, lk, hcd⟩ := T.F_Tree_of.ex
  rw [hfd] at lk
  refine StX.fn_star (ps := ["number"]) (pv := "parts") lk hcd sc_Tree_of (fun _ _ _ _ _ _ _ _ _ _ _ z => z) (fun us rest hl => match us, rest, hl with | [_], [], _ => rfl | [_], _ :: _, _ => rfl) (fun A outer s H vs Q E hr h => ?_)
  obtain ⟨S, p, rest, ts, k, rfl, kn, hp, hlen, items, k1, k2, l3, ok, q⟩ := h
  suffices hh : ∃ t, PSs (cxOf CX0 P w K mg base Tree_of_N "Tree.of" (defScope Tree_of_s) (a 14) cdv A outer s H E).nox (defBody Tree_of_s) t ∧ t { nx := fun _ H' => Q .non H', rt := Q } (L2.start Tree_of_N [.int (k : Nat), .ref p]) H by
    obtain ⟨t, h1, h2⟩ := hh
    exact ⟨t, h1.nox, h2⟩
  refine ⟨_, (pss_cons (ps_if (pt_cmpR op_eq (pe_callB (k_len (K := K)) (by rfl) T.z_len (by decide +kernel) (pa_cons (pv 1) pa_nil)) pe_int (nomark _))
        (pss_one ps_never) pss_nil)
      (pss_cons (ps_set (i := 2) sc_Tree_of.nd rfl (Or.inl rfl) (pe_lst pa_nil))
      (pss_cons (ps_for PassesOwn.never rfl (k_pi (K := K) (pv 1)) (pg_name (i := 3) sc_Tree_of.nd rfl (Or.inl rfl))
        (pss_one (ps_if (pt_val (pe_callB (k_isi (K := K)) (by rfl) T.z_isinstance (by decide +kernel) (pa_cons (pv 3) (pa_cons (pe_glob (v := .ref _) (by rfl) U.m_Tree rfl) pa_nil))))
          (pss_one (ps_expr (pe_bm PySem.F.plainAttrs_list PySem.F.slot_list_append PySem.F.type_list_append mt_append (pv 2) (pa_cons (pe_prop (pv 3) U.cls hpS G_Tree_shape (hr.mono (by omega)) T.b_Tree_shape .nil pass0 rfl) pa_nil)))) (pss_one (ps_if (pt_val (pe_call G_is_number_below (hr.mono (by omega)) (by rfl) T.m_is_number_below T.F_is_number_below.kp T.b_is_number_below .nil pass0 (pa_cons (pv 3) (pa_cons (pe_glob (v := .int 24) (by rfl) T.m_HOUSES ⟨_, rfl⟩) pa_nil))))
            (pss_one (ps_expr (pe_bm PySem.F.plainAttrs_list PySem.F.slot_list_append PySem.F.type_list_append mt_append (pv 2) (pa_cons (pv 3) pa_nil)))) (pss_one ps_never))))))
      (pss_cons (ps_if (PW.pt (pw_or (pt_not (pt_val (pe_call G_is_count (hr.mono (by omega)) (by rfl) T.m_is_count T.F_is_count.kp T.b_is_count .nil pass0 (pa_cons (pv 0) pa_nil)))) (pw_or1 (pt_not (pt_chain op_le op_le pe_int (pv 0) (pe_callB (k_len (K := K)) (by rfl) T.z_len (by decide +kernel) (pa_cons (pv 2) pa_nil)))))))
        (pss_one ps_never) pss_nil)
      (pss_one (ps_ret (pe_make U.M_Tree G_Tree_init (hr.mono (by omega)) (by rfl) U.m_Tree T.b_Tree_init .nil pass0 (pa_cons (pe_tup (pa_cons pe_str (pa_cons (pv 0) (pa_cons (pv 2) pa_nil)))) pa_nil)))))))), ?_⟩
  refine s_seq (s_if (b_test (t_op (t_cb1 (t_var rfl ⟨p, rest, rfl, .inr (sqT hp), t_c ⟨rfl, _, rfl, ?_⟩⟩)))))
  refine ifF ((dec_int rest.length 0).trans (decide_eq_false (by omega))) (s_next ?_)
  refine s_seq (s_set (t_lst0 fun L hL => ?_))
  have sL := same_new (o := HO.lst []) hL
  have hL1 : (upd H L (.lst [])) L = some (.lst []) := upd_same
  generalize upd H L (.lst []) = H1 at sL hL1
  have kn1 : Kn (plus S L) H1 := (kn.same sL).plus (some_ne hL1)
  have offL : Same (off S H) (off (plus S L) H1) := off_plus hL sL
  have hp1 := sL _ _ hp
  refine nx_of (s_seq ?_)
  refine .inr (t_var rfl ⟨p, rfl, ⟨rest, sqT hp1⟩, ?_⟩)
  refine for_it (walk_tup (K := K) (a := p) (xs := rest)) (fun i σ' H' => ∃ (vs : List V) (x3 : Option V), σ' = [some (.int (k : Nat)), some (.ref p), some (.ref L), x3] ∧ H' L = some (.lst vs) ∧ DpAll K (off (plus S L) H') vs ((ts.take i).map fun t => tD (flg false t)) ∧ SameBut L H1 H')
    ⟨[], _, rfl, hL1, .nil, sbut (Same.refl _)⟩ (fun i σ' H' _ ⟨_, _, _, _, _, sb⟩ => sqT (sb _ _ (ne_of_none hp hL) hp1)) ?_ ?_
  · rintro i x σ' H2 H3 hi ⟨vs, x3, rfl, hv, da, sb⟩ ⟨rfl, hx⟩
    have hi2 : i < ts.length := by omega
    have hti : ts[i]? = some ts[i] := List.getElem?_eq_getElem hi2
    have kn2 : Kn (plus S L) H3 := fun c z => by
      by_cases e : c = L
      · subst e; exact some_ne hv
      · cases h : H1 c with
        | none => exact (kn1 c z h).elim
        | some o => rw [sb c o e h]; exact fun z => nomatch z
    have hit := (items i x _ hx hti).same (offL.trans (off_but sb))
    have l1 := dpa_len da
    rw [List.length_map, List.length_take] at l1
    refine g_name ?_
    rcases hit with ⟨z, rfl, hz, okz⟩ | ⟨n, rfl, et, hn⟩
    · refine s_if (b_val (t_cb2 (t_var rfl (t_c (isi_own U D hz ⟨_, rfl, ifT rfl ?_⟩)))))
      obtain ⟨dx, v1, v2, v3, hz0, _⟩ := id hz
      refine s_drop (t_bm (t_var rfl ⟨.inl ⟨rfl, _, sqL hv⟩, a_cons (t_prop (t_var rfl ⟨z, dx, _, rfl, (off_some hz0).2, plus S L, _, z, rfl, kn2, hz, okz, fun u H4 s4 du => a_nil ?_⟩))⟩))
      refine ⟨L, vs, u, rfl, rfl, s4 _ _ hv, Nat.lt_of_le_of_lt (show vs.length ≤ 100000 by omega) (by decide), _, _, rfl, upd_same, ?_, bmut (fun c o n h => s4 c o (sb c o n h))⟩
      rw [off_mut (show plus S L L from .inr rfl), List.take_add_one, hti, List.map_append]
      exact dpa_app (dpa_same (off_same s4) _ _ da) (.cons (dp_same (off_less (old_of kn2)) _ _ du.dp) .nil)
    · refine s_if (b_val (t_cb2 (t_var rfl (t_c (isi_oth (S := noS) (d := .int (n : Nat)) D (.int _) ⟨_, rfl, ifF rfl ?_⟩)))))
      refine s_if (b_val (t_call2 (t_var rfl (t_c (spP_bl (H0 := H3) (Same.refl _) (PyData.int (n : Nat), (24 : Int)) (.cons (.int _) (.cons (.int 24) .nil)) trivial rfl fun H4 s4 => ⟨_, rfl, ?_⟩)))))
      refine ifT (by simp [belowD]; omega) ?_
      refine s_drop (t_bm (t_var rfl ⟨.inl ⟨rfl, _, sqL (s4 _ _ hv)⟩, a_cons (t_var rfl (a_nil ?_))⟩))
      refine ⟨L, vs, _, rfl, rfl, s4 _ _ hv, Nat.lt_of_le_of_lt (show vs.length ≤ 100000 by omega) (by decide), _, _, rfl, upd_same, ?_, bmut (fun c o n h => s4 c o (sb c o n h))⟩
      rw [off_mut (show plus S L L from .inr rfl), List.take_add_one, hti, List.map_append]
      refine dpa_app (dpa_same (off_same s4) _ _ da) (.cons ?_ .nil)
      rw [et]
      show Dp K (off (plus S L) H4) (V.int (n : Nat)) (tD (flg false (.leaf n)))
      rw [flg_leaf, tD_leaf]; exact .int _
  · rintro σ' H2 ⟨vs, x3, rfl, hv, da, sb⟩
    rw [hlen, List.take_length] at da
    have ll := dpa_len da
    rw [List.length_map] at ll
    have sH : Same H H2 := fun b o h => sb b o (ne_of_none h hL) (sL _ _ h)
    have knS := kn.same sH
    have dL : Dp K (off S H2) (.ref L) (.list ((ts.map (flg false)).map tD)) := by
      rw [List.map_map]
      exact dp_lst (kn.new hL) hv (dpa_same off_fin _ _ da)
    refine nx_of (s_seq (s_if (b_or (b_not (b_val (t_call1 (t_var rfl (spP_bl (H0 := H2) (Same.refl _) (.int (k : Nat)) (.cons (.int _) .nil) trivial rfl fun H3 s3 => ⟨_, rfl, ?_⟩))))))))
    refine ifF (by simp [isCountD]) ?_
    have hv3 := s3 _ _ hv
    refine b_not (b_test (t_c (t_var rfl ⟨_, _, rfl, rfl, bl_if (fun _ => ?_) (fun c => absurd (show (1 : Int) ≤ (k : Nat) by omega) (of_decide_eq_false c))⟩)))
    refine t_cb1 (t_var rfl ⟨L, vs, rfl, .inl (sqL hv3), ⟨_, _, rfl, rfl, _, rfl, ?_⟩⟩)
    refine ifF (by rw [decide_eq_true (by omega)]; rfl) (s_next ?_)
    have sH3 := sH.trans s3
    refine s_ret (mk_tree (.gate false k (ts.map (flg false))) ?_ (kn.same sH3) (fun Q' q' => ?_) fun z H' s h => q z H' (sH3.trans s) (h.eqv (flg_all ts k)))
    · refine okt_of_flg true ?_
      rw [flg_all]; exact okt_flg ok
    · refine t_tup (a_cons (t_c (a_cons (t_var rfl (a_cons (t_var rfl (a_nil ⟨le3, fun y hy => q' _ _ (same_new hy) ?_⟩)))))))
      rw [tD_gate]
      exact dp_newT (kn.same sH3) hy (.cons (.str _) (.cons (.int _) (.cons (dp_same (off_same s3) _ _ dL) .nil)))
end
end K31

set_option maxRecDepth 100000
set_option maxHeartbeats 4000000
namespace K31
open PySem PySem.Spec PyProof.Rows L2 Kh
section
variable {P : Program} {w : World} {K : PySem.W.Frag} {mg : Str → Option Value} {base : Heap} {a : Nat → Addr} {fd : Nat → FuncData} {C : Addr} {tk : Nat → Tok}
/-- the text that a tree is told by -/
def tText (t : Kh.T) : Str := ("Tree(" : Str) ++ (tD t).shown ++ (")" : Str)
def spRepr (K : PySem.W.Frag) (C : Addr) : Sp := fun vs H Q _ => ∃ (S : Addr → Prop) (t : Kh.T) (x : Addr), vs = [.ref x] ∧ Kn S H ∧ TreeAt K C (off S H) t x ∧ Okt t ∧ ∀ H', Same H H' → Q (.str (tText (flg false t))) H'
theorem tells_tree {H : Hp} {v : V} {t : Kh.T} (ok : Okt t) (h : Dp K H v (tD t)) : Tells K H v (tD t) := ⟨h, ⟨_, _, nice_of ok, by decide, by decide⟩, by
  cases t with
  | leaf n => exact .inl ⟨_, tD_leaf n⟩
  | gate b k ps => exact .inr ⟨_, by rw [tD_gate]; rfl⟩⟩
theorem text_len (t : Kh.T) (ok : Okt t) : (tText t).length ≤ 600000 := by
  have h := PyData.shown_le 8 (by decide) (tD t) (nice_of ok).sh
  have h2 := (nice_of ok).wt
  unfold tText
  rw [strLen_append, strLen_append]
  have e1 : ("Tree(" : Str).length = 5 := by decide
  have e2 : (")" : Str).length = 1 := by decide
  rw [e1, e2]; omega
theorem ok_Tree_repr (T : Txt K mg a fd C tk) (U : TxC K mg a C) : FnG P w K mg base 10 (a 25) (fd 25) ["self"] (spRepr K C) := by
  have G_Tree_shape := ok_Tree_shapeN (P := P) (w := w) (base := base) T U
  obtain ⟨pS, hpS⟩ := U.p_shape
  refine fun_okG T.F_Tree_repr sc_Tree_repr (fun vs H Q E h => by obtain ⟨_, _, _, rfl, _⟩ := h; rfl) (fun cdv A outer s H vs Q E hg hr h => ?_)
  obtain ⟨S, t, x, rfl, kn, ht, ok, q⟩ := h
  refine ⟨_, (pss_one (ps_ret (pe_joined (.cons pe_str (.cons (pe_fmtD hg hr.units (pe_prop (pv 0) U.cls hpS G_Tree_shape (hr.mono (by omega)) T.b_Tree_shape .nil pass0 rfl)) (.cons pe_str .nil)))))), ?_⟩
  obtain ⟨dx, v1, v2, v3, hz0, _⟩ := id ht
  have okf := okt_flg (c := false) ok
  have tl := text_len _ okf
  unfold tText at tl
  rw [strLen_append, strLen_append] at tl
  refine s_ret (t_c ⟨_, rfl, (by decide), ?_⟩)
  refine t_prop (t_var rfl ⟨x, dx, _, rfl, (off_some hz0).2, S, t, x, rfl, kn, ht, ok, fun u H1 s1 du => ⟨_, tells_tree okf (dp_same off_sub _ _ (dp_same (off_less (old_of kn)) _ _ du.dp)), _, rfl, ?_, ?_⟩⟩)
  · have e0 : (Str.empty ++ ("Tree(" : Str)) = ("Tree(" : Str) := by decide +kernel
    show (Str.empty ++ ("Tree(" : Str) ++ (tD (flg false t)).shown).length ≤ sizeLine
    rw [e0, strLen_append]
    exact Nat.le_trans (show _ ≤ 600000 by omega) (by decide)
  · have e0 : (Str.empty ++ ("Tree(" : Str)) = ("Tree(" : Str) := by decide +kernel
    refine t_c ⟨_, rfl, ?_, ?_⟩
    · show (Str.empty ++ ("Tree(" : Str) ++ (tD (flg false t)).shown ++ (")" : Str)).length ≤ sizeLine
      rw [e0, strLen_append, strLen_append]
      exact Nat.le_trans tl (by decide)
    · show Q (.str (Str.empty ++ ("Tree(" : Str) ++ (tD (flg false t)).shown ++ (")" : Str))) H1
      rw [e0]
      exact q H1 s1
end
end K31

set_option maxRecDepth 100000
set_option maxHeartbeats 4000000
namespace K31
open PySem PySem.Spec PyProof.Rows L2 Kh
theorem nice_nL {ms : List Nat} (h : ∀ n ∈ ms, n < 256) (hl : ms.length ≤ 300) : Nice 31000 1 (nL ms) := by
  have q := nice_list (niceA_map (f := nD) (g := fun _ => 100) (m := 0) ms fun n hn => nice_int (h n hn))
  have e : ∀ l : List Nat, (l.map fun _ => 100 + 1).sum = 101 * l.length := by
    intro l
    induction l with
    | nil => rfl
    | cons x l ih => rw [List.map_cons, List.sum_cons, ih, List.length_cons]; omega
  rw [e] at q
  exact q.mono (by omega) (Nat.le_refl _)
theorem mem24 {t : Kh.T} : ∀ n ∈ mem t, n < 256 := fun n hn => by
  unfold mem at hn
  have := List.mem_range.mp (List.mem_filter.mp hn).1
  omega
theorem okS_text {t : Kh.T} (ok : Okt t) : okS (tText t) := by
  unfold tText
  refine okS_app (okS_app (by unfold okS; decide +kernel) (okS_tree t ok.1 (by have := ok.2.1; omega))) (by unfold okS; decide +kernel)
def told (t : Kh.T) : List PyData := [tD t, .bool (decide ((lv t).length = (mem t).length)), nL (mem t), nD (lv t).length, .str (tText t)]
theorem nice_told {t : Kh.T} (ok : Okt t) : Nice 900000 20 (.list (told t)) := by
  have a1 := (nice_of ok).mono (Nat.le_refl _) (show 10 ≤ 15 by decide)
  have a2 := (nice_bool (decide ((lv t).length = (mem t).length))).mono (Nat.le_refl _) (show 0 ≤ 15 by decide)
  have a3 := (nice_nL (mem24 (t := t)) (by have := mem_le t; omega)).mono (Nat.le_refl _) (show 1 ≤ 15 by decide)
  have a4 := (nice_int (n := (lv t).length) (by have := ok.2.1; omega)).mono (Nat.le_refl _) (show 0 ≤ 15 by decide)
  have a5 := (nice_okS (okS_text ok) (n := 600000) (text_len t ok)).mono (Nat.le_refl _) (show 0 ≤ 15 by decide)
  exact (nice_list (niceA_cons a1 (niceA_cons a2 (niceA_cons a3 (niceA_cons a4 (niceA_cons a5 (niceA_nil.mono (Nat.le_refl _) (show 0 ≤ 15 by decide)))))))).mono (by decide) (by decide)
theorem tells_list {K : PySem.W.Frag} {H : Hp} {v : V} {ds : List PyData} {n m : Nat} (h : Dp K H v (.list ds)) (hn : Nice n m (.list ds)) (h1 : n ≤ 1000000) (h2 : m ≤ 60) : Tells K H v (.list ds) := ⟨h, ⟨n, m, hn, h1, h2⟩, .inr ⟨ds, rfl⟩⟩
theorem nice_bools (bs : List Bool) (h : bs.length ≤ 1000) : Nice 1000 1 (.list (bs.map PyData.bool)) := by
  have q := nice_list (niceA_map (f := PyData.bool) (g := fun _ => 0) (m := 0) bs fun b _ => nice_bool b)
  have e : ∀ l : List Bool, (l.map fun _ => 0 + 1).sum = l.length := by
    intro l
    induction l with
    | nil => rfl
    | cons x l ih => rw [List.map_cons, List.sum_cons, ih, List.length_cons]; omega
  rw [e] at q
  exact q.mono h (Nat.le_refl _)
section
variable {P : Program} {w : World} {K : PySem.W.Frag} {mg : Str → Option Value} {base : Heap} {a : Nat → Addr} {fd : Nat → FuncData} {C : Addr} {tk : Nat → Tok}
theorem inT_nat (t : Kh.T) (n : Nat) : inT t (.int (n : Nat)) = decide (n ∈ mem t) := by
  unfold inT
  exact decide_eq_decide.mpr ⟨fun h => by simpa using h.2, fun h => ⟨by omega, by simpa using h⟩⟩
theorem ne_self {x : Str} {H : Hp} {Q : VK} (q : Q (.bl false) H) : rNe (.str x) (.str x) H Q := ⟨rfl, by
  have e : (!decide (V.str x = V.str x)) = false := by simp
  rw [e]; exact q⟩
theorem isI_ref {H : Hp} {x dx : Addr} {fs : List (Str × V)} (h : H x = some (.ins C dx fs)) : isI H C (.ref x) := ⟨x, dx, fs, rfl, h⟩
/-- [e for x in range(n)], e a truth value -/
theorem lc_rngB {S : Addr → Prop} {H : Hp} {σ : L2.St} {te : TE} {sl : Nat} {vs : List Nat} {Q : VK} {n : Nat} {ta : TA} (f : Nat → Bool) (kn : Kn S H) (hn : n ≤ 1000)
    (hev : ∀ q : List V → Hp → Prop, (∀ H1, Same H H1 → q [.int (n : Nat)] H1) → ta σ H q) (hw : ∀ x, wipe ((wipe σ vs).set sl (some x)) vs = wipe σ vs)
    (body : ∀ j H1 S', j < n → Same H H1 → Kn S' H1 → (∀ a, S a → S' a) → Same (off S H) (off S' H1) → ∀ Q : VK, (∀ H', Same H1 H' → Q (.bl (f j)) H') → te ((wipe σ vs).set sl (some (.int (j : Nat)))) H1 Q)
    (done : ∀ D H1, Same H H1 → Dp K (off S H1) (.ref D) (.list (((List.range n).map f).map PyData.bool)) → Q (.ref D) H1) :
    tLc (iRng1 ta) (gName sl) tYes te vs σ H Q := by
  refine lc_rngF (K := K) (n := n) (fun _ => true) (fun j => .bool (f j)) kn (by omega) hev hw (fun j H1 S' _ _ _ _ _ Q q => q H1 (Same.refl _)) (fun j H1 S' hj _ s kn' hS ho Q q => body j H1 S' hj s kn' hS ho Q fun H' s' => q _ H' s' (.bl _)) fun D H1 ys hD s hd h => ?_
  refine done D H1 s ?_
  have e : (((List.range n).filter fun _ => true).map fun j => PyData.bool (f j)) = ((List.range n).map f).map PyData.bool := by
    rw [List.map_map, List.filter_eq_self.mpr (fun _ _ => rfl)]; rfl
  rw [← e]; exact h
/-- values that are no house -/
def odds : List PyData := [.none, .int (-1), .int 24, .str "0", .tuple [.int 0], .list [.int 0], .int (10 ^ 29), .bool true, .bool false, .tuple [.str "of", .int 1, .list [.int 0]]]
theorem not_mem (t : Kh.T) {n : Nat} (h : 24 ≤ n) : ¬ n ∈ mem t := fun hn => by
  unfold mem at hn
  have := List.mem_range.mp (List.mem_filter.mp hn).1
  omega
theorem odds_out (t : Kh.T) : ∀ d ∈ odds, inT t d = false := by
  intro d hd
  unfold odds at hd
  rcases List.mem_cons.mp hd with rfl | hd
  · rfl
  rcases List.mem_cons.mp hd with rfl | hd
  · show decide ((0 : Int) ≤ -1 ∧ (-1 : Int).toNat ∈ mem t) = false
    exact decide_eq_false fun h => absurd h.1 (by decide)
  rcases List.mem_cons.mp hd with rfl | hd
  · show decide ((0 : Int) ≤ 24 ∧ (24 : Int).toNat ∈ mem t) = false
    exact decide_eq_false fun h => not_mem t (by decide) h.2
  rcases List.mem_cons.mp hd with rfl | hd
  · rfl
  rcases List.mem_cons.mp hd with rfl | hd
  · rfl
  rcases List.mem_cons.mp hd with rfl | hd
  · rfl
  rcases List.mem_cons.mp hd with rfl | hd
  · show decide ((0 : Int) ≤ 10 ^ 29 ∧ ((10 : Int) ^ 29).toNat ∈ mem t) = false
    exact decide_eq_false fun h => not_mem t (by decide) h.2
  rcases List.mem_cons.mp hd with rfl | hd
  · rfl
  rcases List.mem_cons.mp hd with rfl | hd
  · rfl
  rcases List.mem_cons.mp hd with rfl | hd
  · rfl
  cases hd
def oddF (t : Kh.T) (j : Nat) : Bool := match odds[j]? with | some d => inT t d | none => false
theorem oddF_no (t : Kh.T) (j : Nat) : oddF t j = false := by
  unfold oddF
  cases h : odds[j]? with
  | none => rfl
  | some d => exact odds_out t d (List.mem_of_getElem? h)
def rRevR (K : PySem.W.Frag) (x : V) (H : Hp) (Q : VK) : Prop := ∃ a xs, x = .ref a ∧ SqL K H a xs ∧ ∀ p, H p = none → Q (.ref p) (upd H p (.lst xs.reverse))
theorem rev_d {S : Addr → Prop} {H : Hp} {v : V} {m : List Nat} {Q : VK} (kn : Kn S H) (h : Dp K (off S H) v (nL m)) (q : ∀ p H', Same H H' → Dp K (off S H') (.ref p) (nL m.reverse) → Q (.ref p) H') : rRevR K v H Q := by
  obtain ⟨l, xs, rfl, hs, ha⟩ := list_at (ds := m.map nD) h
  have ex := dpa_nats ha
  subst ex
  refine ⟨l, _, rfl, off_sub.seq hs, fun p hp => ?_⟩
  rw [← List.map_reverse]
  exact q p _ (same_new hp) (dp_newL kn hp (nats_dpa _))
theorem t_rev {σ : L2.St} {H : Hp} {te : TE} {Q : VK} (h : te σ H fun x H1 => rRevR K x H1 Q) : tRevL K te σ H Q := h
theorem t_mk0 {σ : L2.St} {H : Hp} {m : Str} {n : Nat} {sp : Sp} {ta : TE} {tk : TA} {Q : VK} (h : ta σ H fun x H1 => ∃ a dx fs, x = .ref a ∧ H1 a = some (.ins C dx fs) ∧ fs.lookup m = none ∧ tk σ H1 fun zs H2 => zs.length = n ∧ sp (x :: zs) H2 Q E0) : tMethK0 C m n sp ta tk σ H Q := h
theorem st_congr {r m : List Nat} (h : ∀ n, n ∈ r ↔ n ∈ m) : ∀ t, st r t = st m t := Kh.T.ind (fun n => by rw [st_leaf, st_leaf]; exact decide_eq_decide.mpr (h n)) fun b k ps ih => by
  rw [st_gate, st_gate]
  congr 1
  rw [filt_congr (p := st r) (q := st m) fun p hp => ih p hp]
theorem eqv_nL (m : List Nat) : PyData.eqv (nL m) (nL m) = true := eqv_list fun d hd => by
  obtain ⟨n, _, rfl⟩ := List.mem_map.mp hd
  exact eqv_int _
/-- what told_right asks; its answer is True -/
def spTold (K : PySem.W.Frag) (C : Addr) : Sp := fun vs H Q _ => ∃ (S : Addr → Prop) (t : Kh.T) (x : Addr) (v : V), vs = [.ref x, v] ∧ Kn S H ∧ TreeAt K C (off S H) t x ∧ Dp K (off S H) v (tD t) ∧ Okt t ∧ (mem t).length ≤ 8 ∧ flg false t = t ∧ ∀ H', Same H H' → Q (.bl true) H'
theorem ok__law_told_right (T : Txt K mg a fd C tk) (U : TxC K mg a C) (kw_stands : KBn K (fd 18) ["self", "houses"] 1 ["houses"] (fun us ws => us ++ ws) (fun vs zs => vs ++ zs)) : FnG P w K mg base 12 (a 44) (fd 44) ["_law_plant", "_law_sketch"] (spTold K C) := by
  have G__law_leaves := ok__law_leaves (P := P) (w := w) (base := base) T 6
  have G__law_houses := ok__law_houses (P := P) (w := w) (base := base) T 6
  have G__law_is_plain := ok__law_is_plain (P := P) (w := w) (base := base) T 6
  have G__law_stands := ok__law_stands (P := P) (w := w) (base := base) T 6
  have G__law_lists := ok__law_lists (P := P) (w := w) (base := base) T
  have G_Tree_shape := ok_Tree_shapeN (P := P) (w := w) (base := base) T U
  have G_Tree_is_plain := ok_Tree_is_plain (P := P) (w := w) (base := base) T U
  have G_Tree_members := ok_Tree_members (P := P) (w := w) (base := base) T U
  have G_Tree_len := ok_Tree_len (P := P) (w := w) (base := base) T U
  have G_Tree_contains := ok_Tree_contains (P := P) (w := w) (base := base) T U
  have G_Tree_stands := ok_Tree_stands (P := P) (w := w) (base := base) T U
  have G_Tree_repr := ok_Tree_repr (P := P) (w := w) (base := base) T U
  obtain ⟨pS, hpS⟩ := U.p_shape
  obtain ⟨pP, hpP⟩ := U.p_is_plain
  refine fun_okG T.F__law_told_right sc__law_told_right (fun vs H Q E h => by obtain ⟨_, _, _, _, rfl, _⟩ := h; rfl) (fun cdv A outer s H vs Q E hg hr h => ?_)
  obtain ⟨S, t, x, v, rfl, kn, ht, hd, ok, m8, fl, q⟩ := h
  have pre6 : preT 6 t := preOf ok
  have preL6 : preL 6 t := ⟨pre6, by have := ok.2.1; omega⟩
  refine ⟨_, (pss_cons (ps_set (i := 2) sc__law_told_right.nd rfl (Or.inr rfl) (pe_call G__law_houses (hr.mono (by omega)) (by rfl) T.m__law_houses T.F__law_houses.kp T.b__law_houses .nil pass0 (pa_cons (pv 1) pa_nil)))
      (pss_cons (ps_set (i := 3) sc__law_told_right.nd rfl (Or.inl rfl) (pe_lst (pa_cons (pv 1) (pa_cons (pe_call G__law_is_plain (hr.mono (by omega)) (by rfl) T.m__law_is_plain T.F__law_is_plain.kp T.b__law_is_plain .nil pass0 (pa_cons (pv 1) pa_nil)) (pa_cons (pv 2) (pa_cons (pe_callB (k_len (K := K)) (by rfl) T.z_len (by decide +kernel) (pa_cons (pe_call G__law_leaves (hr.mono (by omega)) (by rfl) T.m__law_leaves T.F__law_leaves.kp T.b__law_leaves .nil pass0 (pa_cons (pv 1) pa_nil)) pa_nil)) (pa_cons (pe_op op_add_str (pe_op op_add_str pe_str (pe_callB (cr_reprD hg hr.units) (by rfl) T.z_repr (by decide +kernel) (pa_cons (pv 1) pa_nil))) pe_str) pa_nil)))))))
      (pss_cons (ps_if (pt_cmpR op_ne (pe_callB (cr_reprD hg hr.units) (by rfl) T.z_repr (by decide +kernel) (pa_cons (pe_lst (pa_cons (pe_prop (pv 0) U.cls hpS G_Tree_shape (hr.mono (by omega)) T.b_Tree_shape .nil pass0 rfl) (pa_cons (pe_prop (pv 0) U.cls hpP G_Tree_is_plain (hr.mono (by omega)) T.b_Tree_is_plain .nil pass0 rfl) (pa_cons (pe_meth0 (pv 0) U.cls U.me_members G_Tree_members (hr.mono (by omega)) T.b_Tree_members .nil pass0) (pa_cons (pe_callB (call_lenI (runsOk G_Tree_len T.b_Tree_len) (hr.mono (by omega)) U.me_len) (by rfl) T.z_len (by decide +kernel) (pa_cons (pv 0) pa_nil)) (pa_cons (pe_callB (call_reprI (runsG G_Tree_repr hg T.b_Tree_repr) (hr.mono (by omega)) U.me_repr) (by rfl) T.z_repr (by decide +kernel) (pa_cons (pv 0) pa_nil)) pa_nil)))))) pa_nil)) (pe_callB (cr_reprD hg hr.units) (by rfl) T.z_repr (by decide +kernel) (pa_cons (pv 3) pa_nil)) (nomark _))
        (pss_one (ps_ret pe_bl)) pss_nil)
      (pss_cons (ps_if (pt_cmpR op_ne (pe_callB (cr_reprD hg hr.units) (by rfl) T.z_repr (by decide +kernel) (pa_cons (pe_lc (own := [("_law_name", 6)]) (g := gName 6) (tt := tYes) rfl sc__law_told_right.nd (pi_range1 (by rfl) T.z_range (pa_cons pe_int pa_nil)) (blkOk_by (own := [("_law_name", 6)]) (N := _law_told_right_N) (sc := defScope _law_told_right_s) (by decide +kernel)) (fun _ _ _ _ _ => (pg_name (i := 6) sc__law_told_right.nd rfl (Or.inl rfl))) (fun _ _ _ _ _ => pts_nil) (fun _ _ _ _ _ => (pe_cmpR (op_inI (runsOk G_Tree_contains T.b_Tree_contains) (hr.mono (by omega)) U.me_contains) (pv 6) (pv 0) (by rfl)))) pa_nil)) (pe_callB (cr_reprD hg hr.units) (by rfl) T.z_repr (by decide +kernel) (pa_cons (pe_lc (own := [("_law_name", 6)]) (g := gName 6) (tt := tYes) rfl sc__law_told_right.nd (pi_range1 (by rfl) T.z_range (pa_cons pe_int pa_nil)) (blkOk_by (own := [("_law_name", 6)]) (N := _law_told_right_N) (sc := defScope _law_told_right_s) (by decide +kernel)) (fun _ _ _ _ _ => (pg_name (i := 6) sc__law_told_right.nd rfl (Or.inl rfl))) (fun _ _ _ _ _ => pts_nil) (fun _ _ _ _ _ => (pe_cmpR (k_in (K := K)) (pv 6) (pv 2) (by rfl)))) pa_nil)) (nomark _))
        (pss_one (ps_ret pe_bl)) pss_nil)
      (pss_cons (ps_if (pt_val (pe_callB (k_any (K := K) rfl) (by rfl) T.z_any (by decide +kernel) (pa_cons (pe_lc (own := [("_law_odd", 7)]) (g := gName 7) (tt := tYes) rfl sc__law_told_right.nd (k_pi (K := K) (pe_lst (pa_cons pe_non (pa_cons (pe_un un_neg pe_int) (pa_cons pe_int (pa_cons pe_str (pa_cons (pe_tup (pa_cons pe_int pa_nil)) (pa_cons (pe_lst (pa_cons pe_int pa_nil)) (pa_cons (pe_op op_pow pe_int pe_int) (pa_cons pe_bl (pa_cons pe_bl (pa_cons (pe_tup (pa_cons pe_str (pa_cons pe_int (pa_cons (pe_lst (pa_cons pe_int pa_nil)) pa_nil)))) pa_nil)))))))))))) (blkOk_by (own := [("_law_odd", 7)]) (N := _law_told_right_N) (sc := defScope _law_told_right_s) (by decide +kernel)) (fun _ _ _ _ _ => (pg_name (i := 7) sc__law_told_right.nd rfl (Or.inl rfl))) (fun _ _ _ _ _ => pts_nil) (fun _ _ _ _ _ => (pe_cmpR (op_inI (runsOk G_Tree_contains T.b_Tree_contains) (hr.mono (by omega)) U.me_contains) (pv 7) (pv 0) (by rfl)))) pa_nil)))
        (pss_one (ps_ret pe_bl)) pss_nil)
      (pss_cons (ps_for PassesOwn.never rfl (k_pi (K := K) (pe_call G__law_lists (hr.mono (by omega)) (by rfl) T.m__law_lists T.F__law_lists.kp T.b__law_lists .nil pass0 (pa_cons (pv 2) pa_nil))) (pg_name (i := 4) sc__law_told_right.nd rfl (Or.inl rfl))
        (pss_cons (ps_set (i := 5) sc__law_told_right.nd rfl (Or.inl rfl) (pe_revL (pv 4)))
        (pss_cons (ps_if (pt_cmpR op_ne (pe_callB (cr_reprD hg hr.units) (by rfl) T.z_repr (by decide +kernel) (pa_cons (pe_lst (pa_cons (pe_meth (pv 0) U.cls U.me_stands G_Tree_stands (hr.mono (by omega)) T.b_Tree_stands .nil pass0 (pa_cons (pv 5) pa_nil)) (pa_cons (pe_methK0 (ks := ["houses"]) (pv 0) U.cls U.me_stands G_Tree_stands (hr.mono (by omega)) kw_stands (pk_cons (pe_callTy (k_tup (K := K)) (by rfl) T.z_tuple (by decide +kernel) (pa_cons (pv 4) pa_nil)) pk_nil)) pa_nil))) pa_nil)) (pe_callB (cr_reprD hg hr.units) (by rfl) T.z_repr (by decide +kernel) (pa_cons (pe_op op_rep (pe_lst (pa_cons (pe_call G__law_stands (hr.mono (by omega)) (by rfl) T.m__law_stands T.F__law_stands.kp T.b__law_stands .nil pass0 (pa_cons (pv 1) (pa_cons (pv 4) pa_nil))) pa_nil)) pe_int) pa_nil)) (nomark _))
          (pss_one (ps_ret pe_bl)) pss_nil)
        (pss_one (ps_if (pt_cmpR (k_neD (K := K) hr.units) (pv 5) (pe_revL (pv 4)) (nomark _))
          (pss_one (ps_ret pe_bl)) pss_nil)))))
      (pss_one (ps_ret pe_bl)))))))), ?_⟩
  refine s_seq (s_set (t_call1 (t_var rfl ⟨S, t, kn, .cons hd .nil, preL6, fun vt H1 s1 dt => ?_⟩)))
  have kn1 := kn.same s1
  have hd1 := dp_same (off_same s1) _ _ hd
  have ht1 := ht.same (off_same s1)
  -- what is due
  refine nx_of (s_seq (s_set (t_lst (a_cons (t_var rfl (a_cons (t_call1 (t_var rfl ⟨S, t, kn1, .cons hd1 .nil, preL6, fun vp H2 s2 dp => ?_⟩))))))))
  have kn2 := kn1.same s2
  have hd2 := dp_same (off_same s2) _ _ hd1
  refine a_cons (t_var rfl (a_cons (t_cb1 (t_call1 (t_var rfl ⟨S, t, kn2, .cons hd2 .nil, pre6, fun vl H3 s3 dl => len_d off_sub dl rfl ?_⟩)))))
  have kn3 := kn2.same s3
  have hd3 := dp_same (off_same s3) _ _ hd2
  refine a_cons (t_op (t_op (t_c (t_cb1 (t_var rfl ⟨v, _, rfl, tells_tree ok (dp_same off_sub _ _ hd3), _, _, rfl, rfl, ?_, t_c ⟨_, _, rfl, rfl, ?_, a_nil ⟨le5, fun Du hDu => nx_of ?_⟩⟩⟩)))))
  · have := text_len t ok
    unfold tText at this
    rw [strLen_append, strLen_append] at this
    exact Nat.le_trans (show _ ≤ 600000 by omega) (by decide)
  · have := text_len t ok
    unfold tText at this
    rw [strLen_append] at this
    exact Nat.le_trans (show _ ≤ 600000 from this) (by decide)
  have sDu := same_new (o := HO.lst [v, vp, vt, V.int (((lv t).map nD).length : Nat), V.str (("Tree(" : Str) ++ (tD t).shown ++ (")" : Str))]) hDu
  have dDu : Dp K (off S (upd H3 Du (HO.lst [v, vp, vt, V.int (((lv t).map nD).length : Nat), V.str (("Tree(" : Str) ++ (tD t).shown ++ (")" : Str))]))) (.ref Du) (.list (told t)) := by
    refine dp_newL kn3 hDu (.cons hd3 (.cons (dp_same (off_same s3) _ _ dp) (.cons (dp_same (off_same (s2.trans s3)) _ _ dt) (.cons (dp_int (by rw [List.length_map])) (.cons (.str _) .nil)))))
  generalize upd H3 Du (HO.lst [v, vp, vt, V.int (((lv t).map nD).length : Nat), V.str (("Tree(" : Str) ++ (tD t).shown ++ (")" : Str))]) = H4 at sDu dDu
  have s14 : Same H1 H4 := (s2.trans s3).trans sDu
  have at_ : ∀ {H' : Hp}, Same H1 H' → TreeAt K C (off S H') t x := fun {H'} s => ht1.same (off_same s)
  have knA : ∀ {H' : Hp}, Same H1 H' → Kn S H' := fun {H'} s => kn1.same s
  have hdA : ∀ {H' : Hp}, Same H1 H' → Dp K (off S H') v (tD t) := fun {H'} s => dp_same (off_same s) _ _ hd1
  have dtA : ∀ {H' : Hp}, Same H1 H' → Dp K (off S H') vt (nL (mem t)) := fun {H'} s => dp_same (off_same s) _ _ dt
  have insA : ∀ {H' : Hp}, Same H1 H' → ∃ dx v1 v2 v3, H' x = some (.ins C dx (flds v1 v2 v3)) := fun {H'} s => by
    obtain ⟨dx, v1, v2, v3, h0, _⟩ := at_ s
    exact ⟨dx, v1, v2, v3, (off_some h0).2⟩
  -- all that the tree tells
  refine s_seq (s_if (b_test (t_op (t_cb1 (t_lst (a_cons ?_))))))
  obtain ⟨dx, v1, v2, v3, hx⟩ := insA s14
  refine t_prop (t_var rfl ⟨x, dx, _, rfl, hx, S, t, x, rfl, knA s14, at_ s14, ok, fun u1 H5 s5 d1 => a_cons ?_⟩)
  have s15 := s14.trans s5
  refine t_prop (t_var rfl ⟨x, dx, _, rfl, s5 _ _ hx, S, t, x, (), [], rfl, knA s15, at_ s15, ok, .nil, trivial, fun u2 H6 s6 d2 => a_cons ?_⟩)
  have s16 := s15.trans s6
  refine t_meth0 (t_var rfl ⟨x, dx, _, rfl, s6 _ _ (s5 _ _ hx), rfl, S, t, x, (), [], rfl, knA s16, at_ s16, ok, .nil, trivial, fun u3 H7 s7 d3 => a_cons ?_⟩)
  have s17 := s16.trans s7
  refine t_cb1 (t_var rfl ⟨_, rfl, isI_at (at_ s17), S, t, x, (), [], rfl, knA s17, at_ s17, ok, .nil, trivial, fun u4 H8 s8 d4 => ?_⟩)
  cases d4
  have s18 := s17.trans s8
  refine ⟨(lv t).length, rfl, by have := ok.2.1; omega, a_cons ?_⟩
  refine t_cb1 (t_var rfl ⟨_, rfl, isI_at (at_ s18), S, t, x, rfl, knA s18, at_ s18, ok, fun H9 s9 => ⟨_, rfl, a_nil ⟨le5, fun L hL => ?_⟩⟩⟩)
  have s19 := s18.trans s9
  have sL := same_new (o := HO.lst [u1, u2, u3, V.int ((lv t).length : Nat), V.str (tText (flg false t))]) hL
  have d1' : Dp K (off S H5) u1 (tD t) := by
    have h := d1.dp (K := K)
    rw [fl] at h
    exact dp_same (off_less (old_of (knA s14))) _ _ h
  have dL : Dp K (off S (upd H9 L (HO.lst [u1, u2, u3, V.int ((lv t).length : Nat), V.str (tText (flg false t))]))) (.ref L) (.list (told t)) := by
    rw [fl]
    exact dp_newL (knA s19) hL (.cons (dp_same (off_same (((s6.trans s7).trans s8).trans s9)) _ _ d1') (.cons (dp_same (off_same ((s7.trans s8).trans s9)) _ _ d2) (.cons (dp_same (off_same (s8.trans s9)) _ _ d3) (.cons (.int _) (.cons (.str _) .nil)))))
  refine ⟨_, _, rfl, tells_list (dp_same off_sub _ _ dL) (nice_told ok) (by decide) (by decide), ?_⟩
  have s49 := ((((s5.trans s6).trans s7).trans s8).trans s9).trans sL
  have s110 := s14.trans s49
  generalize upd H9 L (HO.lst [u1, u2, u3, V.int ((lv t).length : Nat), V.str (tText (flg false t))]) = H10 at *
  refine t_cb1 (t_var rfl ⟨_, _, rfl, tells_list (dp_same (off_same s49) _ _ dDu |> dp_same off_sub _ _) (nice_told ok) (by decide) (by decide), ne_self ⟨_, rfl, ifF rfl (s_next ?_)⟩⟩)
  -- each house
  have bN := nice_bools ((List.range 24).map fun j => decide (j ∈ mem t)) (by simp)
  refine s_seq (s_if (b_test (t_op (t_cb1 (lc_rngB (K := K) (n := 24) (fun j => decide (j ∈ mem t)) (knA s110) (by decide) (fun q' h' => a_cons (t_c (a_nil (h' _ (Same.refl _))))) (fun _ => rfl) (fun j H11 S' hj s11 kn11 hS ho Q' q' => ?_) fun D1 H11 s11 dD1 => ?_)))))
  · have at11 := (at_ s110).same ho
    refine t_op (t_var rfl (t_var rfl ⟨isI_at at11, S', t, x, .int (j : Nat), [.int (j : Nat)], rfl, kn11, at11, ok, .cons (.int _) .nil, trivial, fun b H12 s12 db => ?_⟩))
    have db' : Dp K (off S' H12) b (.bool (inT t (.int (j : Nat)))) := db
    rw [inT_nat] at db'
    cases db'
    exact ⟨_, rfl, q' H12 s12⟩
  refine ⟨_, _, rfl, tells_list (dp_same off_sub _ _ dD1) bN (by decide) (by decide), ?_⟩
  have s111 := s110.trans s11
  refine t_cb1 (lc_rngB (K := K) (n := 24) (fun j => decide (j ∈ mem t)) (knA s111) (by decide) (fun q' h' => a_cons (t_c (a_nil (h' _ (Same.refl _))))) (fun _ => rfl) (fun j H12 S' hj s12 kn12 hS ho Q' q' => ?_) fun D2 H12 s12 dD2 => ?_)
  · refine t_op (t_var rfl (t_var rfl (in_d (ns := (mem t).map fun m : Nat => ((m : Nat) : Int)) off_sub (dp_same ho _ _ (dtA s111)) (by unfold nL; rw [← nD_map]; rfl) ?_)))
    have e : decide (((j : Nat) : Int) ∈ (mem t).map fun m : Nat => ((m : Nat) : Int)) = decide (j ∈ mem t) := decide_eq_decide.mpr mem_ints
    show Q' (.bl (decide (((j : Nat) : Int) ∈ (mem t).map fun m : Nat => ((m : Nat) : Int)))) H12
    rw [e]; exact q' _ (Same.refl _)
  refine ⟨_, _, rfl, tells_list (dp_same off_sub _ _ dD2) bN (by decide) (by decide), ne_self ⟨_, rfl, ifF rfl (s_next ?_)⟩⟩
  have s112 := s111.trans s12
  -- what is no house
  refine s_seq (s_if (b_val (t_cb1 (lc_seq (b := false) (ds := odds) (fun j => .bool (oddF t j)) (knA s112) (fun Q' q' => ?_) (by decide) (fun _ => rfl) (fun j xo d H13 S' dj s13 kn13 dx hS ho Q' q' => ?_) fun D3 H13 ys3 hD3 s13 hd13 dD3 => ?_))))
  · refine t_lst (a_cons (t_c (a_cons (t_un (t_c ⟨_, rfl, ?_⟩)))))
    refine a_cons (t_c (a_cons (t_c (a_cons (t_tup (a_cons (t_c (a_nil ⟨le1, fun p1 h1 => ?_⟩))))))))
    refine a_cons (t_lst (a_cons (t_c (a_nil ⟨le1, fun p2 h2 => ?_⟩))))
    refine a_cons (t_op (t_c (t_c ⟨_, _, rfl, rfl, ⟨by decide, by decide, by decide⟩, ?_⟩)))
    refine a_cons (t_c (a_cons (t_c (a_cons (t_tup (a_cons (t_c (a_cons (t_c (a_cons (t_lst (a_cons (t_c (a_nil ⟨le1, fun p3 h3 => a_nil ⟨le3, fun p4 h4 => a_nil ⟨show (10 : Nat) ≤ sizeLine by decide, fun p5 h5 => ?_⟩⟩⟩))))))))))))))
    have kn0 := knA s112
    have e1 := same_new (o := HO.tup [V.int 0]) h1
    have d1 := dp_newT kn0 h1 (.cons (Dp.int (K := K) 0) .nil)
    have e2 := same_new (o := HO.lst [V.int 0]) h2
    have d2 := dp_newL (kn0.same e1) h2 (.cons (Dp.int (K := K) 0) .nil)
    have e12 := e1.trans e2
    have e3 := same_new (o := HO.lst [V.int 0]) h3
    have d3 := dp_newL (kn0.same e12) h3 (.cons (Dp.int (K := K) 0) .nil)
    have e13 := e12.trans e3
    have e4 := same_new (o := HO.tup [V.str "of", V.int 1, V.ref p3]) h4
    have d4 := dp_newT (kn0.same e13) h4 (.cons (Dp.str (K := K) "of") (.cons (.int 1) (.cons d3 .nil)))
    have e14 := e13.trans e4
    refine q' _ _ (e14.trans (same_new h5)) ?_
    refine dp_newL (kn0.same e14) h5 ?_
    refine .cons .non (.cons (.int (-1)) (.cons (.int 24) (.cons (.str "0") (.cons (dp_same (off_same ((e2.trans e3).trans e4)) _ _ d1) (.cons (dp_same (off_same (e3.trans e4)) _ _ d2) (.cons (dp_int (by decide)) (.cons (.bl true) (.cons (.bl false) (.cons d4 .nil)))))))))
  · have at13 := (at_ s112).same ho
    refine t_op (t_var rfl (t_var rfl ⟨isI_at at13, S', t, x, d, [xo], rfl, kn13, at13, ok, .cons dx .nil, trivial, fun b H14 s14' db => ?_⟩))
    have db' : Dp K (off S' H14) b (.bool (inT t d)) := db
    have e : oddF t j = inT t d := by unfold oddF; rw [dj]
    rw [← e] at db'
    cases db'
    exact ⟨_, rfl, q' _ H14 s14' (.bl _)⟩
  refine any_d (bs := (List.range odds.length).map (oddF t)) off_sub (by rw [List.map_map]; exact dD3) ⟨_, rfl, ifF ?_ (s_next ?_)⟩
  · refine List.any_eq_false.mpr fun b hb => ?_
    obtain ⟨j, _, rfl⟩ := List.mem_map.mp hb
    rw [oddF_no]; decide
  have s113 := s112.trans s13
  -- all lists of its houses
  refine s_seq (.inl (t_call1 (t_var rfl ⟨S, mem t, vt, rfl, knA s113, dtA s113, m8, fun u H14 ms s14' du sub ml => ?_⟩)))
  obtain ⟨ra, xs, rfl, hsq, ha⟩ := list_at (ds := ms.map nL) du
  have lx := dpa_len ha
  rw [List.length_map] at lx
  have s114 := s113.trans s14'
  refine ⟨ra, rfl, ⟨xs, off_sub.seq hsq⟩, ?_⟩
  refine for_it (walk_list (K := K) (a := ra) (xs := xs)) (fun i σ' H' => ∃ (x4 x5 x6 x7 : Option V), σ' = [some (.ref x), some v, some vt, some (.ref Du), x4, x5, x6, x7] ∧ Same H14 H') ⟨_, _, _, _, rfl, Same.refl _⟩ (fun i σ' H' _ ⟨_, _, _, _, _, s⟩ => (off_sub.trans s).seq hsq) ?_ ?_
  · rintro i xi σ' H15 H15' hi ⟨x4, x5, x6, x7, rfl, s15'⟩ ⟨rfl, hxi⟩
    obtain ⟨d, di, dx'⟩ := dpa_at ha hxi
    rw [List.getElem?_map] at di
    cases emi : ms[i]? with
    | none => rw [emi] at di; cases di
    | some m =>
      rw [emi] at di
      cases di
      have hsub := sub m (List.mem_of_getElem? emi)
      have s115 := s114.trans s15'
      have dm := dp_same (off_same s15') _ _ dx'
      have mlen : m.length ≤ 24 := Nat.le_trans hsub.length_le (mem_le t)
      have mn : ∀ n ∈ m, n < 24 ∧ n ∈ mem t := fun n hn => ⟨lv24 t ok.1 n ((mem_iff ok.1 n).mp (hsub.subset hn)), hsub.subset hn⟩
      refine g_name (s_seq (s_set (t_rev (t_var rfl (rev_d (knA s115) dm fun pr H16 s16' dr => nx_of ?_)))))
      have s116 := s115.trans s16'
      obtain ⟨dx6, w1, w2, w3, hx6⟩ := insA s116
      refine s_seq (s_if (b_test (t_op (t_cb1 (t_lst (a_cons ?_))))))
      refine t_meth1 (t_var rfl ⟨x, dx6, _, rfl, hx6, rfl, t_var rfl ⟨S, t, x, (false, m.reverse), [.ref pr], rfl, knA s116, at_ s116, ok, .cons dr .nil, ⟨fun n hn => mn n (List.mem_reverse.mp hn), (List.reverse_perm m).nodup_iff.mpr ((mem_nodup t).sublist hsub), by show m.reverse.length ≤ 1000; rw [List.length_reverse]; omega⟩, fun b1 H17 s17' db1 => a_cons ?_⟩⟩)
      have db1' : Dp K (off S H17) b1 (.bool (st m.reverse t)) := db1
      rw [st_congr (fun n => List.mem_reverse) t] at db1'
      cases db1'
      have s117 := s116.trans s17'
      refine t_mk0 (t_var rfl ⟨x, dx6, _, rfl, s17' _ _ hx6, rfl, a_cons (t_cb1 (t_var rfl (tup_d (knA s117) (dp_same (off_same (s16'.trans s17')) _ _ dm) (ds := m.map nD) rfl fun tu H18 s18' dtu => a_nil ⟨rfl, ?_⟩)))⟩)
      have s118 := s117.trans s18'
      refine ⟨S, t, x, (true, m), [tu], rfl, knA s118, at_ s118, ok, .cons dtu .nil, ⟨mn, (mem_nodup t).sublist hsub, by show m.length ≤ 1000; omega⟩, fun b2 H19 s19' db2 => a_nil ⟨le2, fun pl hpl => ?_⟩⟩
      have db2' : Dp K (off S H19) b2 (.bool (st m t)) := db2
      cases db2'
      have s119 := s118.trans s19'
      have spl := same_new (o := HO.lst [V.bl (st m t), V.bl (st m t)]) hpl
      have dpl : Dp K (off S (upd H19 pl (.lst [V.bl (st m t), V.bl (st m t)]))) (.ref pl) (.list ([st m t, st m t].map PyData.bool)) := dp_newL (knA s119) hpl (.cons (.bl _) (.cons (.bl _) .nil))
      have bN2 := nice_bools [st m t, st m t] (show (2 : Nat) ≤ 1000 by decide)
      refine ⟨_, _, rfl, tells_list (dp_same off_sub _ _ dpl) bN2 (by decide) (by decide), ?_⟩
      have s120 := s119.trans spl
      generalize upd H19 pl (.lst [V.bl (st m t), V.bl (st m t)]) = H20 at *
      refine t_cb1 (t_op (t_lst (a_cons (t_call2 (t_var rfl (t_var rfl ⟨S, (t, false, m), knA s120, .cons (hdA s120) (.cons (dp_same (off_same ((((s16'.trans s17').trans s18').trans s19').trans spl)) _ _ dm) .nil), pre6, fun b3 H21 s21 db3 => a_nil ⟨le1, fun pq hpq => ?_⟩⟩))))))
      have db3' : Dp K (off S H21) b3 (.bool (st m t)) := db3
      cases db3'
      have s121 := s120.trans s21
      have spq := same_new (o := HO.lst [V.bl (st m t)]) hpq
      refine t_c ⟨pq, 2, [.bl (st m t)], rfl, rfl, upd_same, by decide, by decide, (show (1 : Nat) * 2 ≤ sizeLine by decide), fun pz hpz => ?_⟩
      have s122 := s121.trans spq
      have spz := same_new (o := HO.lst [V.bl (st m t), V.bl (st m t)]) hpz
      have dpz := dp_newL (K := K) (knA s122) hpz (ds := [st m t, st m t].map PyData.bool) (.cons (.bl (st m t)) (.cons (.bl (st m t)) .nil))
      refine ⟨_, _, rfl, tells_list (dp_same off_sub _ _ dpz) bN2 (by decide) (by decide), ne_self ⟨_, rfl, ifF rfl (s_next ?_)⟩⟩
      have s123 := s122.trans spz
      have s623 := ((((((s17'.trans s18').trans s19').trans spl).trans s21).trans spq).trans spz)
      refine s_if (b_test (t_op (t_var rfl (t_rev (t_var rfl (rev_d (knA s123) (dp_same (off_same (s16'.trans s623)) _ _ dm) fun pr2 H24 s24 dr2 => ?_))))))
      refine ⟨_, _, dp_same off_sub _ _ (dp_same (off_same (s623.trans s24)) _ _ dr), dp_same off_sub _ _ dr2, shaped_nL _, shaped_nL _, ?_⟩
      rw [eqv_nL]
      exact ⟨_, rfl, ifF rfl (s_next ⟨_, _, _, _, rfl, ((s15'.trans s16').trans s623).trans s24⟩)⟩
  · rintro σ' H15 ⟨x4, x5, x6, x7, rfl, s15'⟩
    exact nx_of (s_ret (t_c (q _ (s1.trans (s114.trans s15')))))
end
end K31

set_option maxRecDepth 100000
set_option maxHeartbeats 4000000
namespace K31
open PySem PySem.Spec PyProof.Rows L2 Kh
theorem con_con : ∀ t, Wf t → con (con t) = flg false t := Kh.T.ind (fun n _ => by rw [con_leaf, con_leaf, flg_leaf]) fun b k ps ih h => by
  obtain ⟨h1, h2, h3⟩ := (wf_gate b k ps).mp h
  rw [con_gate, con_gate, flg_gate, List.length_map, List.map_map]
  have e : ps.length + 1 - (ps.length + 1 - k) = k := by omega
  rw [e]
  congr 1
  exact List.map_congr_left fun p hp => ih p hp (h3 p hp)
theorem filt_not {α : Type} {p q : α → Bool} : ∀ {l : List α}, (∀ x ∈ l, p x = !q x) → (l.filter p).length + (l.filter q).length = l.length
  | [], _ => rfl
  | x :: l, h => by
    have ih := filt_not (l := l) fun y hy => h y (List.mem_cons_of_mem _ hy)
    rw [List.filter_cons, List.filter_cons, h x List.mem_cons_self, List.length_cons]
    cases q x <;> simp <;> omega
theorem st_con (s s' : List Nat) : ∀ t, Wf t → (∀ n ∈ lv t, n ∈ s ↔ n ∉ s') → st s (con t) = !st s' t := Kh.T.ind (fun n _ h => by
  rw [con_leaf, st_leaf, st_leaf]
  have := h n (by rw [lv_leaf]; exact List.mem_singleton.mpr rfl)
  by_cases c : n ∈ s'
  · rw [decide_eq_true c, decide_eq_false (fun z => (this.mp z) c)]; rfl
  · rw [decide_eq_false c, decide_eq_true (this.mpr c)]; rfl) fun b k ps ih wf h => by
  obtain ⟨h1, h2, h3⟩ := (wf_gate b k ps).mp wf
  rw [con_gate, st_gate, st_gate, List.filter_map, List.length_map]
  have e := filt_not (p := st s ∘ con) (q := st s') (l := ps) fun p hp => ih p hp (h3 p hp) fun n hn => h n (by rw [lv_gate]; exact List.mem_flatMap.mpr ⟨p, hp, hn⟩)
  by_cases c : k ≤ (ps.filter (st s')).length
  · rw [decide_eq_true c, decide_eq_false (by omega)]; rfl
  · rw [decide_eq_false c, decide_eq_true (by omega)]; rfl
section
variable {P : Program} {w : World} {K : PySem.W.Frag} {mg : Str → Option Value} {base : Heap} {a : Nat → Addr} {fd : Nat → FuncData} {C : Addr} {tk : Nat → Tok}
open Classical in
theorem sameT_refl (t : Kh.T) : sameT t t = true := decide_eq_true rfl
/-- what turned_right asks; its answer is True -/
def spTurned (K : PySem.W.Frag) (C : Addr) : Sp := fun vs H Q _ => ∃ (S : Addr → Prop) (t : Kh.T) (x : Addr) (v vt : V), vs = [.ref x, v, vt] ∧ Kn S H ∧ TreeAt K C (off S H) t x ∧ Dp K (off S H) v (tD t) ∧ Dp K (off S H) vt (nL (mem t)) ∧ Okt t ∧ (mem t).length ≤ 8 ∧ ∀ H', Same H H' → Q (.bl true) H'
theorem ok__law_turned_right (T : Txt K mg a fd C tk) (U : TxC K mg a C) (D : TxD K C) : FnOk P w K mg base CX0 12 (a 45) (fd 45) ["_law_plant", "_law_sketch", "_law_tags"] (spTurned K C) := by
  have G__law_turned := ok__law_turned (P := P) (w := w) (base := base) T 6
  have G__law_lists := ok__law_lists (P := P) (w := w) (base := base) T
  have G_Tree_init := ok_Tree_init (P := P) (w := w) (base := base) T U
  have G_Tree_members := ok_Tree_members (P := P) (w := w) (base := base) T U
  have G_Tree_stands := ok_Tree_stands (P := P) (w := w) (base := base) T U
  have G_Tree_invert := ok_Tree_invert (P := P) (w := w) (base := base) T U
  have G_Tree_eq := ok_Tree_eq (P := P) (w := w) (base := base) T U D
  refine T.F__law_turned_right.ok sc__law_turned_right (fun vs H Q E h => by obtain ⟨_, _, _, _, _, rfl, _⟩ := h; rfl) (fun cdv A outer s H vs Q E hr h => ?_)
  obtain ⟨S, t, x, v, vt, rfl, kn, ht, hd, dt, ok, m8, q⟩ := h
  refine ⟨_, (pss_cons (ps_set (i := 3) sc__law_turned_right.nd rfl (Or.inl rfl) (pe_un (un_invI (runsOk G_Tree_invert T.b_Tree_invert) (hr.mono (by omega)) U.me_invert) (pv 0)))
      (pss_cons (ps_if (PW.pt (pw_or (pt_cmpR (op_neI (runsOk G_Tree_eq T.b_Tree_eq) (hr.mono (by omega)) U.me_eq D.ne D.ob) (pv 3) (pe_make U.M_Tree G_Tree_init (hr.mono (by omega)) (by rfl) U.m_Tree T.b_Tree_init .nil pass0 (pa_cons (pe_call G__law_turned (hr.mono (by omega)) (by rfl) T.m__law_turned T.F__law_turned.kp T.b__law_turned .nil pass0 (pa_cons (pv 1) pa_nil)) pa_nil)) (nomark _)) (pw_or (pt_cmpR (op_neI (runsOk G_Tree_eq T.b_Tree_eq) (hr.mono (by omega)) U.me_eq D.ne D.ob) (pe_un (un_invI (runsOk G_Tree_invert T.b_Tree_invert) (hr.mono (by omega)) U.me_invert) (pv 3)) (pv 0) (nomark _)) (pw_or1 (pt_cmpR (k_neD (K := K) hr.units) (pe_meth0 (pv 3) U.cls U.me_members G_Tree_members (hr.mono (by omega)) T.b_Tree_members .nil pass0) (pv 2) (nomark _))))))
        (pss_one (ps_ret pe_bl)) pss_nil)
      (pss_cons (ps_for PassesOwn.never rfl (k_pi (K := K) (pe_call G__law_lists (hr.mono (by omega)) (by rfl) T.m__law_lists T.F__law_lists.kp T.b__law_lists .nil pass0 (pa_cons (pv 2) pa_nil))) (pg_name (i := 4) sc__law_turned_right.nd rfl (Or.inr rfl))
        (pss_one (ps_if (pt_cmpR op_eq (pe_meth (pv 3) U.cls U.me_stands G_Tree_stands (hr.mono (by omega)) T.b_Tree_stands .nil pass0 (pa_cons (pv 4) pa_nil)) (pe_meth (pv 0) U.cls U.me_stands G_Tree_stands (hr.mono (by omega)) T.b_Tree_stands .nil pass0 (pa_cons (pe_lc (own := [("_law_name", 5)]) (g := gName 5) (tt := _) rfl sc__law_turned_right.nd (k_pi (K := K) (pv 2)) (blkOk_by (own := [("_law_name", 5)]) (N := _law_turned_right_N) (sc := defScope _law_turned_right_s) (by decide +kernel)) (fun _ _ _ _ _ => (pg_name (i := 5) sc__law_turned_right.nd rfl (Or.inl rfl))) (fun _ _ _ _ _ => (pts_one (pt_cmpR (k_notIn (K := K)) (pv 5) (pv 4) (by rfl)))) (fun _ _ _ _ _ => (pv 5))) pa_nil)) (nomark _))
          (pss_one (ps_ret pe_bl)) pss_nil)))
      (pss_one (ps_ret pe_bl))))), ?_⟩
  have okc := okt_con ok
  refine s_seq (s_set (t_un (t_var rfl ⟨isI_at ht, S, t, x, (), [], rfl, kn, ht, ok, .nil, trivial, fun y H1 s1 hy => nx_of ?_⟩)))
  have at_ : ∀ {H' : Hp}, Same H H' → TreeAt K C (off S H') t x := fun {H'} s => ht.same (off_same s)
  have ay_ : ∀ {H' : Hp}, Same H1 H' → TreeAt K C (off S H') (con t) y := fun {H'} s => hy.same (off_same s)
  have knA : ∀ {H' : Hp}, Same H H' → Kn S H' := fun {H'} s => kn.same s
  have hdA : ∀ {H' : Hp}, Same H H' → Dp K (off S H') v (tD t) := fun {H'} s => dp_same (off_same s) _ _ hd
  have dtA : ∀ {H' : Hp}, Same H H' → Dp K (off S H') vt (nL (mem t)) := fun {H'} s => dp_same (off_same s) _ _ dt
  refine s_seq (s_if (b_or (b_test (t_op (t_var rfl (mk_tree (S := S) (con t) okc (knA s1) (fun Q' q' => t_call1 (t_var rfl ⟨S, t, knA s1, .cons (hdA s1) .nil, preOf ok, fun u H2 s2 du => q' u H2 s2 du⟩)) fun z H2 s2 hz => ?_))))))
  have s12 := s1.trans s2
  refine ⟨isI_at (ay_ s2), .inl (isI_at hz), S, con t, y, .ref z, rfl, knA s12, ay_ s2, okc, .inl ⟨con t, z, rfl, hz, okc, fun H3 s3 => ⟨_, rfl, _, rfl, ?_⟩⟩⟩
  rw [sameT_refl]
  refine ifF rfl (b_or (b_test (t_op (t_un (t_var rfl ⟨isI_at (ay_ (s2.trans s3)), S, con t, y, (), [], rfl, knA (s12.trans s3), ay_ (s2.trans s3), okc, .nil, trivial, fun z2 H4 s4 hz2 => t_var rfl ?_⟩)))))
  have s14 := (s12.trans s3).trans s4
  refine ⟨isI_at hz2, .inl (isI_at (at_ s14)), S, con (con t), z2, .ref x, rfl, knA s14, hz2, okt_con okc, .inl ⟨t, x, rfl, at_ s14, ok, fun H5 s5 => ⟨_, rfl, _, rfl, ?_⟩⟩⟩
  rw [con_con t ok.1, flg_flg, sameT_refl]
  have s15 := s14.trans s5
  have s25 := ((s2.trans s3).trans s4).trans s5
  obtain ⟨dy, w1, w2, w3, hy5, _⟩ := id (ay_ s25)
  refine ifF rfl (b_test (t_op (t_meth0 (t_var rfl ⟨y, dy, _, rfl, (off_some hy5).2, rfl, S, con t, y, (), [], rfl, knA s15, ay_ s25, okc, .nil, trivial, fun u H6 s6 du => t_var rfl ?_⟩))))
  have s16 := s15.trans s6
  have du' : Dp K (off S H6) u (nL (mem t)) := by
    have h : Dp K (off S H6) u (nL (mem (con t))) := du
    rw [mem_con] at h; exact h
  refine ⟨_, _, dp_same off_sub _ _ du', dp_same off_sub _ _ (dtA s16), shaped_nL _, shaped_nL _, ?_⟩
  rw [eqv_nL]
  refine ⟨_, rfl, ifF rfl (s_next ?_)⟩
  have s26 := s25.trans s6
  refine s_seq (.inl (t_call1 (t_var rfl ⟨S, mem t, vt, rfl, knA s16, dtA s16, m8, fun u H7 ms s7 du sub ml => ?_⟩)))
  obtain ⟨ra, xs, rfl, hsq, ha⟩ := list_at (ds := ms.map nL) du
  have s17 := s16.trans s7
  have s27 := s26.trans s7
  refine ⟨ra, rfl, ⟨xs, off_sub.seq hsq⟩, ?_⟩
  refine for_it (walk_list (K := K) (a := ra) (xs := xs)) (fun i σ' H' => ∃ (x4 x5 : Option V), σ' = [some (.ref x), some v, some vt, some (.ref y), x4, x5] ∧ Same H7 H') ⟨_, _, rfl, Same.refl _⟩ (fun i σ' H' _ ⟨_, _, _, s⟩ => (off_sub.trans s).seq hsq) ?_ ?_
  · rintro i xi σ' H8 H8' hi ⟨x4, x5, rfl, s8⟩ ⟨rfl, hxi⟩
    obtain ⟨d, di, dx'⟩ := dpa_at ha hxi
    rw [List.getElem?_map] at di
    cases emi : ms[i]? with
    | none => rw [emi] at di; cases di
    | some m =>
      rw [emi] at di
      cases di
      have hsub := sub m (List.mem_of_getElem? emi)
      have s18 := s17.trans s8
      have s28 := s27.trans s8
      have dm := dp_same (off_same s8) _ _ dx'
      have mlen : m.length ≤ 24 := Nat.le_trans hsub.length_le (mem_le t)
      have mn : ∀ n ∈ m, n < 24 ∧ n ∈ mem t := fun n hn => ⟨lv24 t ok.1 n ((mem_iff ok.1 n).mp (hsub.subset hn)), hsub.subset hn⟩
      obtain ⟨dy, w1, w2, w3, hy8, _⟩ := id (ay_ s28)
      refine g_name (s_if (b_test (t_op (t_meth1 (t_var rfl ⟨y, dy, _, rfl, (off_some hy8).2, rfl, t_var rfl ⟨S, con t, y, (false, m), [xi], rfl, knA s18, ay_ s28, okc, .cons dm .nil, ⟨fun n hn => ⟨(mn n hn).1, by rw [mem_con]; exact (mn n hn).2⟩, (mem_nodup t).sublist hsub, by show m.length ≤ 1000; omega⟩, fun b1 H9 s9 db1 => ?_⟩⟩)))))
      have db1' : Dp K (off S H9) b1 (.bool (st m (con t))) := db1
      cases db1'
      have s19 := s18.trans s9
      have dm9 := dp_same (off_same s9) _ _ dm
      obtain ⟨dx, v1, v2, v3, hx9, _⟩ := id (at_ s19)
      refine t_meth1 (t_var rfl ⟨x, dx, _, rfl, (off_some hx9).2, rfl, ?_⟩)
      refine lc_seqF (b := false) (ds := (mem t).map nD) (fun j => match (mem t)[j]? with | some n => !decide (n ∈ m) | none => false) (fun j => match (mem t)[j]? with | some n => nD n | none => .none) (knA s19) (fun Q' q' => t_var rfl (q' _ _ (Same.refl _) (dtA s19))) (by rw [List.length_map]; have := mem_le t; omega) (fun _ => rfl) (fun j xj dj H10 S' ej s10 kn10 dxj hS ho Q' q' => ?_) (fun j xj dj H10 S' ej pj s10 kn10 dxj hS ho Q' q' => ?_) fun L H10 ys hL s10 hL10 dL => ?_
      · rw [List.getElem?_map] at ej
        cases en : (mem t)[j]? with
        | none => rw [en] at ej; cases ej
        | some n =>
          rw [en] at ej
          cases ej
          cases dxj
          refine b_test (t_op (t_var rfl (t_var rfl (in_d (neg := true) (ns := m.map fun m : Nat => ((m : Nat) : Int)) off_sub (dp_same ho _ _ dm9) (by unfold nL; rw [← nD_map]; rfl) ?_))))
          have e : decide (((n : Nat) : Int) ∈ m.map fun m : Nat => ((m : Nat) : Int)) = decide (n ∈ m) := decide_eq_decide.mpr mem_ints
          refine ⟨_, rfl, ?_⟩
          show Q' (!decide (((n : Nat) : Int) ∈ m.map fun m : Nat => ((m : Nat) : Int))) H10
          rw [e]
          have qq := q' H10 (Same.refl _)
          rw [en] at qq
          exact qq
      · rw [List.getElem?_map] at ej
        cases en : (mem t)[j]? with
        | none => rw [en] at ej; cases ej
        | some n =>
          rw [en] at ej
          cases ej
          exact t_var rfl (q' _ _ (Same.refl _) (by rw [en]; exact dxj))
      · rw [List.length_map, range_filter (p := fun n => !decide (n ∈ m)) (g := nD) fun i n e => ⟨by rw [e], by rw [e]⟩] at dL
        have s110 := s19.trans s10
        refine ⟨S, t, x, (false, (mem t).filter fun n => !decide (n ∈ m)), [.ref L], rfl, knA s110, at_ s110, ok, .cons dL .nil, ⟨fun n hn => ?_, (mem_nodup t).filter _, ?_⟩, fun b2 H11 s11 db2 => ?_⟩
        · have hn' := (List.mem_filter.mp hn).1
          exact ⟨lv24 t ok.1 n ((mem_iff ok.1 n).mp hn'), hn'⟩
        · have := List.length_filter_le (fun n => !decide (n ∈ m)) (mem t)
          have := mem_le t
          show ((mem t).filter fun n => !decide (n ∈ m)).length ≤ 1000
          omega
        · have db2' : Dp K (off S H11) b2 (.bool (st ((mem t).filter fun n => !decide (n ∈ m)) t)) := db2
          cases db2'
          have e := st_con m ((mem t).filter fun n => !decide (n ∈ m)) t ok.1 fun n hn => by
            rw [List.mem_filter, mem_iff ok.1]
            exact ⟨fun h z => by simp [h] at z, fun h => by
              by_cases c : n ∈ m
              · exact c
              · exact (h ⟨hn, by simp [c]⟩).elim⟩
          rw [e]
          refine ⟨rfl, _, rfl, ifF ?_ (s_next ⟨_, _, rfl, ((s8.trans s9).trans s10).trans s11⟩)⟩
          refine decide_eq_false fun h => ?_
          have := V.bl.inj h
          generalize st ((mem t).filter fun n => !decide (n ∈ m)) t = bz at this
          cases bz <;> simp at this
  · rintro σ' H8 ⟨x4, x5, rfl, s8⟩
    exact nx_of (s_ret (t_c (q _ (s17.trans s8))))
end
end K31

set_option maxRecDepth 100000
set_option maxHeartbeats 4000000
namespace K31
open PySem PySem.Spec PyProof.Rows L2 Kh
theorem sub_lenI : ∀ {l ns : List Int}, l.Nodup → (∀ n ∈ l, n ∈ ns) → l.length ≤ ns.length
  | [], _, _, _ => Nat.zero_le _
  | x :: l, ns, nd, h => by
    have hx := h x List.mem_cons_self
    have nd' := List.nodup_cons.mp nd
    have ih := sub_lenI (l := l) (ns := ns.erase x) nd'.2 fun n hn => (List.mem_erase_of_ne (fun e : n = x => nd'.1 (by rw [← e]; exact hn))).mpr (h n (List.mem_cons_of_mem _ hn))
    rw [List.length_erase_of_mem hx] at ih
    have := List.length_pos_of_mem hx
    rw [List.length_cons]; omega
theorem s_ifSet {tt : TT} {te : TE} {i : Nat} {σ : L2.St} {H : Hp} {D : Ends} (Cnd : L2.St → Hp → Prop) (k : ∀ σ' H', Cnd σ' H' → D.nx σ' H')
    (h : ∀ N : L2.St → Hp → Prop, (∀ σ' H', Cnd σ' H' → N σ' H') → tt σ H fun b H1 => if b = true then te σ H1 (fun x H2 => N (σ.set i (some x)) H2) else N σ H1) : tIfS tt (tAsg te (gName i)) tNext D σ H := h D.nx k
section
variable {P : Program} {w : World} {K : PySem.W.Frag} {mg : Str → Option Value} {base : Heap} {a : Nat → Addr} {fd : Nat → FuncData} {C : Addr} {tk : Nat → Tok}
/-- [e for x in xs], any items, any results -/
theorem lc_genL {S : Addr → Prop} {H : Hp} {σ : L2.St} {t te : TE} {sl : Nat} {vs : List Nat} {Q : VK} {ra : Addr} {xs : List V} (Pj : Nat → V → Hp → Prop) (mono : ∀ j y H H', Same H H' → Pj j y H → Pj j y H') (kn : Kn S H)
    (hev : ∀ Q : VK, Q (.ref ra) H → t σ H Q) (hsq : SqL K (off S H) ra xs) (hn : xs.length ≤ 100000) (hw : ∀ x, wipe ((wipe σ vs).set sl (some x)) vs = wipe σ vs)
    (body : ∀ j x H1 S', xs[j]? = some x → Same H H1 → Kn S' H1 → Same (off S H) (off S' H1) → ∀ Q : VK, (∀ y H', Same H1 H' → Pj j y (off S' H') → Q y H') → te ((wipe σ vs).set sl (some x)) H1 Q)
    (done : ∀ D H1 ys, H D = none → Same H H1 → H1 D = some (.lst ys) → ys.length = xs.length → (∀ (j : Nat) y, ys[j]? = some y → Pj j y (off S H1)) → Q (.ref D) H1) :
    tLc (fun σ H R => iList K t σ H R ∨ iTup K t σ H R) (gName sl) tYes te vs σ H Q := by
  refine .inl (hev _ ⟨ra, rfl, ⟨xs, off_sub.seq hsq⟩, fun D hD => ?_⟩)
  refine lc_map (Qd := Q (.ref D)) (walk_list (K := K) (a := ra) (xs := xs)) (fun j x => xs[j]? = some x) (fun i H x H' _ y => y) (fun j y H => Pj j y (off (plus S D) H)) (fun H' s => (off_sub.trans s).seq hsq) hD hn hw (fun j y H H' e h => mono _ _ _ _ (off_but e) h) (fun j x H1 hj xj s hd Q q => ?_) (fun ys H1 hl py s hd => ?_)
  · exact body j x H1 (plus S D) xj s ((kn.same s).plus hd) (off_plus hD s) Q q
  · exact done D H1 ys hD s hd hl fun j y hy => mono _ _ _ _ off_fin (py j y hy)
/-- two equal trees -/
def EqR (K : PySem.W.Frag) (C : Addr) (x y : Addr) (H : Hp) : Prop := ∃ S t u, Kn S H ∧ TreeAt K C (off S H) t x ∧ TreeAt K C (off S H) u y ∧ Okt t ∧ Okt u ∧ flg true t = flg true u
theorem eqR_mon {x y : Addr} {H H' : Hp} (e : Same H H') (h : EqR K C x y H) : EqR K C x y H' := by
  obtain ⟨S, t, u, kn, h1, h2, r⟩ := h
  exact ⟨S, t, u, kn.same e, h1.same (off_same e), h2.same (off_same e), r⟩
theorem ok_eqR {n : Nat} (F : FnOk P w K mg base CX0 n (a 24) (fd 24) ["self", "other"] (spEqT K C)) : FnOk P w K mg base CX0 n (a 24) (fd 24) ["self", "other"] (spEq (EqR K C)) := F.imp fun vs H Q E h => by
  obtain ⟨x, y, rfl, ⟨S, t, u, kn, h1, h2, o1, o2, e⟩, q⟩ := h
  exact ⟨S, t, x, .ref y, rfl, kn, h1, o1, .inl ⟨u, y, rfl, h2, o2, fun H' s => by rw [e, sameT_refl]; exact q H' s⟩⟩
/-- the second tree of a pair -/
structure Snd (t u : Kh.T) : Prop where
  ok : Okt u
  fl : flg false u = u
  dp : dep u ≤ 3
  lv : (lv u).length ≤ 9
  un : ((List.range 24).filter fun n => decide (n ∈ Kh.lv t ++ Kh.lv u)).length ≤ 8
theorem okt_join {t u : Kh.T} (ok : Okt t) (d4 : dep t ≤ 4) (l9 : (Kh.lv t).length ≤ 9) (s : Snd t u) {k : Nat} {ts : List Kh.T} (hk : 1 ≤ k) (hk2 : k ≤ ts.length) (h : ∀ r ∈ ts, r = t ∨ r = u ∨ ∃ n, r = .leaf n ∧ n ∈ Kh.lv t) (hl : (ts.flatMap Kh.lv).length ≤ 24) : Okt (.gate false k ts) := by
  refine ⟨(wf_gate _ _ _).mpr ⟨hk, hk2, fun r hr => ?_⟩, by rw [lv_gate]; exact hl, (dep_gate (d := 4) _ _ _).mpr fun r hr => ?_, .inr ?_⟩
  · rcases h r hr with rfl | rfl | ⟨n, rfl, hn⟩
    · exact ok.1
    · exact s.ok.1
    · rw [Wf]; exact lv24 t ok.1 n hn
  · rcases h r hr with rfl | rfl | ⟨n, rfl, hn⟩
    · exact d4
    · have := s.dp; omega
    · simp [dep]
  · refine Nat.le_trans (sub_len (mem_nodup _) fun n hn => ?_) s.un
    unfold mem at hn
    obtain ⟨h1, h2⟩ := List.mem_filter.mp hn
    refine List.mem_filter.mpr ⟨h1, decide_eq_true ?_⟩
    have h3 := of_decide_eq_true h2
    rw [lv_gate] at h3
    obtain ⟨r, hr, hn⟩ := List.mem_flatMap.mp h3
    rcases h r hr with rfl | rfl | ⟨m, rfl, hm⟩
    · exact List.mem_append_left _ hn
    · exact List.mem_append_right _ hn
    · rw [lv_leaf] at hn
      rw [List.mem_singleton.mp hn]; exact List.mem_append_left _ hm
theorem flg_join {k : Nat} {ts : List Kh.T} (h : ∀ r ∈ ts, flg false r = r) : flg false (.gate false k ts) = .gate false k ts := by
  rw [flg_gate]
  congr 1
  exact (List.map_congr_left fun r hr => h r hr).trans (List.map_id ts)
theorem t_sm {sp : Sp} {E : XK} {σ : L2.St} {H : Hp} {ta : TE} {tt : TA} {Q : VK} (h : ta σ H fun x H1 => x = .ref C ∧ tt σ H1 fun vs H2 => sp vs H2 Q E) : tSMeth C sp E ta tt σ H Q := h
/-- ('of', k, [a, b]) of data -/
theorem due2 {S : Addr → Prop} {σ : L2.St} {H : Hp} {ta tb : TE} {t u : Kh.T} {v1 v2 : V} {k : Nat} {Q : VK} (kn : Kn S H) (d1 : Dp K (off S H) v1 (tD t)) (d2 : Dp K (off S H) v2 (tD u)) (ea : ∀ Q : VK, Q v1 H → ta σ H Q) (eb : ∀ Q : VK, Q v2 H → tb σ H Q)
    (q : ∀ v H', Same H H' → Dp K (off S H') v (tD (.gate false k [t, u])) → Q v H') : tTup (tCons (tC (.str "of")) (tCons (tC (.int (k : Nat))) (tCons (tLst (tCons ta (tCons tb tNil))) tNil))) σ H Q := by
  refine t_tup (a_cons (t_c (a_cons (t_c (a_cons (t_lst (a_cons (ea _ (a_cons (eb _ (a_nil ⟨le2, fun p hp => a_nil ⟨le3, fun r hr => ?_⟩⟩)))))))))))
  have sp := same_new (o := HO.lst [v1, v2]) hp
  refine q _ _ (sp.trans (same_new hr)) ?_
  rw [tD_gate]
  exact dp_newT (kn.same sp) hr (.cons (.str _) (.cons (.int _) (.cons (dp_newL kn hp (.cons d1 (.cons d2 .nil))) .nil)))
theorem r_zip {ta : TA} {σ : L2.St} {H : Hp} {R : It → Hp → Prop} (h : ta σ H fun vs H1 => ∃ a b xs ys, vs = [.ref a, .ref b] ∧ SqL K H1 a xs ∧ SqL K H1 b ys ∧ R (Itz K a b) H1) : iZip K ta σ H R := h
def two (a b : Nat) : Kh.T := .gate false 1 [.leaf a, .leaf b]
theorem okt_two {a b : Nat} (ha : a < 24) (hb : b < 24) : Okt (two a b) := by
  have e : lv (two a b) = [a, b] := by simp [two, lv_gate, lv_leaf]
  refine ⟨(wf_gate _ _ _).mpr ⟨by decide, by simp, fun r hr => ?_⟩, by rw [e]; show (2 : Nat) ≤ 24; decide, (dep_gate (d := 4) _ _ _).mpr fun r hr => ?_, .inr ?_⟩
  · rcases List.mem_cons.mp hr with rfl | hr
    · rw [Wf]; exact ha
    · rw [List.mem_singleton.mp hr, Wf]; exact hb
  · rcases List.mem_cons.mp hr with rfl | hr
    · simp [dep]
    · rw [List.mem_singleton.mp hr]; simp [dep]
  · have := sub_len (mem_nodup (two a b)) (ns := [a, b]) fun n hn => by
      unfold mem at hn
      have h2 := of_decide_eq_true (List.mem_filter.mp hn).2
      rwa [e] at h2
    exact Nat.le_trans this (show (2 : Nat) ≤ 8 by decide)
open Classical in
theorem two_ne : sameT (flg true (two 0 1)) (flg true (two 1 0)) = false := decide_eq_false fun h => by
  unfold two at h
  rw [flg_gate, flg_gate] at h
  have h2 := (Kh.T.gate.inj h).2.2
  simp [flg_leaf] at h2
/-- what joined_right asks; its answer is True -/
def spJoined (K : PySem.W.Frag) (C : Addr) : Sp := fun vs H Q _ => ∃ (S : Addr → Prop) (p : Addr) (t : Kh.T) (x : Addr) (v : V), vs = [.ref p, .ref x, v] ∧ S p ∧ Kn S H ∧ PotAt H p ∧ TreeAt K C (off S H) t x ∧ Dp K (off S H) v (tD t) ∧ Okt t ∧ flg false t = t ∧ dep t ≤ 4 ∧ (lv t).length ≤ 9 ∧ (mem t).length ≤ 6 ∧
  ∀ H', SameBut p H H' → PotAt H' p → Q (.bl true) H'
theorem ok__law_joined_right (T : Txt K mg a fd C tk) (U : TxC K mg a C) (D : TxD K C) (mc : Value) (ps : Addr) (hsm : SMet K C mc "of" ps (a 14)) : FnOk P w K mg base CX0 12 (a 46) (fd 46) ["_law_pot_here", "_law_plant", "_law_sketch"] (spJoined K C) := by
  have G__law_shape := ok__law_shape (P := P) (w := w) (base := base) T
  have G__law_leaves := ok__law_leaves (P := P) (w := w) (base := base) T 6
  have G__law_houses := ok__law_houses (P := P) (w := w) (base := base) T 6
  have G__law_is_plain := ok__law_is_plain (P := P) (w := w) (base := base) T 6
  have G_Tree_init := ok_Tree_init (P := P) (w := w) (base := base) T U
  have G_Tree_shape := ok_Tree_shapeN (P := P) (w := w) (base := base) T U
  have G_Tree_is_plain := ok_Tree_is_plain (P := P) (w := w) (base := base) T U
  have G_Tree_members := ok_Tree_members (P := P) (w := w) (base := base) T U
  have G_Tree_len := ok_Tree_len (P := P) (w := w) (base := base) T U
  have G_Tree_contains := ok_Tree_contains (P := P) (w := w) (base := base) T U
  have G_Tree_and := ok_Tree_and (P := P) (w := w) (base := base) T U D
  have G_Tree_or := ok_Tree_or (P := P) (w := w) (base := base) T U D
  have G_Tree_of := ok_Tree_of (P := P) (w := w) (base := base) T U D
  have G_Tree_eq := ok_Tree_eq (P := P) (w := w) (base := base) T U D
  have G_eqR := ok_eqR G_Tree_eq
  have hMon : ∀ x y H H', Ext H H' → EqR K C x y H → EqR K C x y H' := fun x y H H' e h => eqR_mon e h
  obtain ⟨pS, hpS⟩ := U.p_shape
  obtain ⟨pP, hpP⟩ := U.p_is_plain
  refine T.F__law_joined_right.ok sc__law_joined_right (fun vs H Q E h => by obtain ⟨_, _, _, _, _, rfl, _⟩ := h; rfl) (fun cdv A outer s H vs Q E hr h => ?_)
  obtain ⟨S, p, t, x, v, rfl, hS, kn, hp, ht, hd, ok, fl, dp4, lv9, m6, q⟩ := h
  refine ⟨_, (pss_cons (ps_set (i := 3) sc__law_joined_right.nd rfl (Or.inl rfl) (pe_call G__law_shape (hr.mono (by omega)) (by rfl) T.m__law_shape T.F__law_shape.kp T.b__law_shape .nil pass0 (pa_cons (pv 0) (pa_cons pe_int pa_nil))))
      (pss_cons (ps_if (pt_cmpR op_gt (pe_callB cr_lenSet (by rfl) T.z_len (by decide +kernel) (pa_cons (pe_callTy (k_setOf (K := K) rfl) (by rfl) T.z_set (by decide +kernel) (pa_cons (pe_op (k_catS (K := K)) (pe_call G__law_houses (hr.mono (by omega)) (by rfl) T.m__law_houses T.F__law_houses.kp T.b__law_houses .nil pass0 (pa_cons (pv 2) pa_nil)) (pe_call G__law_houses (hr.mono (by omega)) (by rfl) T.m__law_houses T.F__law_houses.kp T.b__law_houses .nil pass0 (pa_cons (pv 3) pa_nil))) pa_nil)) pa_nil)) pe_int (nomark _))
        (pss_one (ps_set (i := 3) sc__law_joined_right.nd rfl (Or.inl rfl) (pe_ix (k_ix (K := K)) (pe_call G__law_leaves (hr.mono (by omega)) (by rfl) T.m__law_leaves T.F__law_leaves.kp T.b__law_leaves .nil pass0 (pa_cons (pv 2) pa_nil)) pe_int (fun _ _ => rfl)))) pss_nil)
      (pss_cons (ps_set (i := 4) sc__law_joined_right.nd rfl (Or.inl rfl) (pe_make U.M_Tree G_Tree_init (hr.mono (by omega)) (by rfl) U.m_Tree T.b_Tree_init .nil pass0 (pa_cons (pv 3) pa_nil)))
      (pss_cons (ps_set (i := 5) sc__law_joined_right.nd rfl (Or.inl rfl) (pe_lst (pa_cons (pe_op (op_binI (op := .BitAnd) (runsOk G_Tree_and T.b_Tree_and) (hr.mono (by omega)) D.sf U.me_and) (pv 1) (pv 4)) (pa_cons (pe_op (op_binI (op := .BitOr) (runsOk G_Tree_or T.b_Tree_or) (hr.mono (by omega)) D.sf U.me_or) (pv 1) (pv 4)) (pa_cons (pe_smeth (pe_glob (v := .ref _) (by rfl) U.m_Tree rfl) hsm G_Tree_of (hr.mono (by omega)) pass0 (pa_cons pe_int (pa_cons (pv 1) (pa_cons (pv 4) (pa_cons (pe_ix (k_ix (K := K)) (pe_call G__law_leaves (hr.mono (by omega)) (by rfl) T.m__law_leaves T.F__law_leaves.kp T.b__law_leaves .nil pass0 (pa_cons (pv 2) pa_nil)) pe_int (fun _ _ => rfl)) pa_nil))))) pa_nil)))))
      (pss_cons (ps_set (i := 6) sc__law_joined_right.nd rfl (Or.inl rfl) (pe_lst (pa_cons (pe_tup (pa_cons pe_str (pa_cons pe_int (pa_cons (pe_lst (pa_cons (pv 2) (pa_cons (pv 3) pa_nil))) pa_nil)))) (pa_cons (pe_tup (pa_cons pe_str (pa_cons pe_int (pa_cons (pe_lst (pa_cons (pv 2) (pa_cons (pv 3) pa_nil))) pa_nil)))) pa_nil))))
      (pss_cons (ps_expr (pe_bm PySem.F.plainAttrs_list PySem.F.slot_list_append PySem.F.type_list_append mt_append (pv 6) (pa_cons (pe_tup (pa_cons pe_str (pa_cons pe_int (pa_cons (pe_lst (pa_cons (pv 2) (pa_cons (pv 3) (pa_cons (pe_ix (k_ix (K := K)) (pe_call G__law_leaves (hr.mono (by omega)) (by rfl) T.m__law_leaves T.F__law_leaves.kp T.b__law_leaves .nil pass0 (pa_cons (pv 2) pa_nil)) pe_int (fun _ _ => rfl)) pa_nil)))) pa_nil)))) pa_nil)))
      (pss_cons (ps_if (PW.pt (pw_or (pt_cmpR (k_neD (K := K) hr.units) (pe_lc (own := [("_law_here", 10)]) (g := gName 10) (tt := tYes) rfl sc__law_joined_right.nd (k_pi (K := K) (pv 5)) (blkOk_by (own := [("_law_here", 10)]) (N := _law_joined_right_N) (sc := defScope _law_joined_right_s) (by decide +kernel)) (fun _ _ _ _ _ => (pg_name (i := 10) sc__law_joined_right.nd rfl (Or.inl rfl))) (fun _ _ _ _ _ => pts_nil) (fun _ _ _ _ _ => (pe_prop (pv 10) U.cls hpS G_Tree_shape (hr.mono (by omega)) T.b_Tree_shape .nil pass0 rfl))) (pv 6) (nomark _)) (pw_or1 (pt_cmpR (op_neGL (mon_ins hMon) (eqG_ins G_eqR U.me_eq.at_ U.me_eq.fn T.b_Tree_eq pass0) (hr.mono (by omega))) (pv 5) (pe_lc (own := [("_law_due", 8)]) (g := gName 8) (tt := tYes) rfl sc__law_joined_right.nd (k_pi (K := K) (pv 6)) (blkOk_by (own := [("_law_due", 8)]) (N := _law_joined_right_N) (sc := defScope _law_joined_right_s) (by decide +kernel)) (fun _ _ _ _ _ => (pg_name (i := 8) sc__law_joined_right.nd rfl (Or.inl rfl))) (fun _ _ _ _ _ => pts_nil) (fun _ _ _ _ _ => (pe_make U.M_Tree G_Tree_init (hr.mono (by omega)) (by rfl) U.m_Tree T.b_Tree_init .nil pass0 (pa_cons (pv 8) pa_nil)))) (nomark _)))))
        (pss_one (ps_ret pe_bl)) pss_nil)
      (pss_cons (ps_for PassesOwn.never rfl (pi_zip (by rfl) T.z_zip (pa_cons (pv 5) (pa_cons (pv 6) pa_nil))) (pg_tup rfl (pgs_cons (pg_name (i := 7) sc__law_joined_right.nd rfl (Or.inr rfl)) (pgs_cons (pg_name (i := 8) sc__law_joined_right.nd rfl (Or.inr rfl)) pgs_nil)))
        (pss_cons (ps_set (i := 9) sc__law_joined_right.nd rfl (Or.inl rfl) (pe_lst (pa_cons (pe_prop (pv 7) U.cls hpP G_Tree_is_plain (hr.mono (by omega)) T.b_Tree_is_plain .nil pass0 rfl) (pa_cons (pe_meth0 (pv 7) U.cls U.me_members G_Tree_members (hr.mono (by omega)) T.b_Tree_members .nil pass0) (pa_cons (pe_callB (call_lenI (runsOk G_Tree_len T.b_Tree_len) (hr.mono (by omega)) U.me_len) (by rfl) T.z_len (by decide +kernel) (pa_cons (pv 7) pa_nil)) pa_nil)))))
        (pss_cons (ps_if (pt_cmpR (k_neD (K := K) hr.units) (pv 9) (pe_lst (pa_cons (pe_call G__law_is_plain (hr.mono (by omega)) (by rfl) T.m__law_is_plain T.F__law_is_plain.kp T.b__law_is_plain .nil pass0 (pa_cons (pv 8) pa_nil)) (pa_cons (pe_call G__law_houses (hr.mono (by omega)) (by rfl) T.m__law_houses T.F__law_houses.kp T.b__law_houses .nil pass0 (pa_cons (pv 8) pa_nil)) (pa_cons (pe_callB (k_len (K := K)) (by rfl) T.z_len (by decide +kernel) (pa_cons (pe_call G__law_leaves (hr.mono (by omega)) (by rfl) T.m__law_leaves T.F__law_leaves.kp T.b__law_leaves .nil pass0 (pa_cons (pv 8) pa_nil)) pa_nil)) pa_nil)))) (nomark _))
          (pss_one (ps_ret pe_bl)) pss_nil)
        (pss_one (ps_if (pt_not (pt_val (pe_callB (k_all (K := K) rfl) (by rfl) T.z_all (by decide +kernel) (pa_cons (pe_lc (own := [("_law_name", 11)]) (g := gName 11) (tt := tYes) rfl sc__law_joined_right.nd (pi_range1 (by rfl) T.z_range (pa_cons pe_int pa_nil)) (blkOk_by (own := [("_law_name", 11)]) (N := _law_joined_right_N) (sc := defScope _law_joined_right_s) (by decide +kernel)) (fun _ _ _ _ _ => (pg_name (i := 11) sc__law_joined_right.nd rfl (Or.inl rfl))) (fun _ _ _ _ _ => pts_nil) (fun _ _ _ _ _ => (pe_cmpR op_eq (pe_cmpR (op_inI (runsOk G_Tree_contains T.b_Tree_contains) (hr.mono (by omega)) U.me_contains) (pv 11) (pv 7) (by rfl)) (pe_cmpR (k_in (K := K)) (pv 11) (pe_call G__law_houses (hr.mono (by omega)) (by rfl) T.m__law_houses T.F__law_houses.kp T.b__law_houses .nil pass0 (pa_cons (pv 8) pa_nil)) (by rfl)) (nomark _)))) pa_nil))))
          (pss_one (ps_ret pe_bl)) pss_nil)))))
      (pss_cons (ps_if (pt_cmpR (op_eqI (runsOk G_Tree_eq T.b_Tree_eq) (hr.mono (by omega)) U.me_eq) (pe_make U.M_Tree G_Tree_init (hr.mono (by omega)) (by rfl) U.m_Tree T.b_Tree_init .nil pass0 (pa_cons (pe_tup (pa_cons pe_str (pa_cons pe_int (pa_cons (pe_lst (pa_cons pe_int (pa_cons pe_int pa_nil))) pa_nil)))) pa_nil)) (pe_make U.M_Tree G_Tree_init (hr.mono (by omega)) (by rfl) U.m_Tree T.b_Tree_init .nil pass0 (pa_cons (pe_tup (pa_cons pe_str (pa_cons pe_int (pa_cons (pe_lst (pa_cons pe_int (pa_cons pe_int pa_nil))) pa_nil)))) pa_nil)) (nomark _))
        (pss_one (ps_ret pe_bl)) pss_nil)
      (pss_one (ps_ret (pe_and (pe_cmpR (op_eqI (runsOk G_Tree_eq T.b_Tree_eq) (hr.mono (by omega)) U.me_eq) (pe_smeth (pe_glob (v := .ref _) (by rfl) U.m_Tree rfl) hsm G_Tree_of (hr.mono (by omega)) pass0 (pa_cons pe_int (pa_cons (pv 1) (pa_cons (pv 4) pa_nil)))) (pe_ix (k_ix (K := K)) (pv 5) pe_int (fun _ _ => rfl)) (nomark _)) (pe_and (pe_cmpR (k_eqD (K := K) hr.units) (pe_prop (pv 1) U.cls hpS G_Tree_shape (hr.mono (by omega)) T.b_Tree_shape .nil pass0 rfl) (pv 2) (nomark _)) (pe_one (pe_cmpR (k_eqD (K := K) hr.units) (pe_prop (pv 4) U.cls hpS G_Tree_shape (hr.mono (by omega)) T.b_Tree_shape .nil pass0 rfl) (pv 3) (nomark _)))))))))))))))), ?_⟩
  have prT : preL 6 t := ⟨preOf ok, by omega⟩
  obtain ⟨n0, hn0⟩ : ∃ n0, (lv t)[0]? = some n0 := ⟨_, List.getElem?_eq_getElem (lv_pos t ok.1)⟩
  have hn0m : n0 ∈ lv t := List.mem_of_getElem? hn0
  refine s_seq (s_set (t_call2 (t_var rfl (t_c ⟨S, p, 3, rfl, kn, hS, hp, by decide, by decide, fun vu0 H1 u0 sb1 pt1 shp du0 => nx_of ?_⟩))))
  have knB : ∀ {H'}, SameBut p H H' → PotAt H' p → Kn S H' := fun {H'} sb pt => kn_bt kn sb pt.some
  have hdB : ∀ {H'}, SameBut p H H' → Dp K (off S H') v (tD t) := fun {H'} sb => dp_same (off_bt hS sb) _ _ hd
  have htB : ∀ {H'}, SameBut p H H' → TreeAt K C (off S H') t x := fun {H'} sb => ht.same (off_bt hS sb)
  have oku0 : Okt u0 := ⟨shp.wf, by have := shp.len; omega, by have := shp.dp; omega, .inr (by have := shp.mem; omega)⟩
  have leaf0 : ∀ {σ' : L2.St} {H' : Hp} {ta : TE} {Q' : VK}, SameBut p H H' → PotAt H' p → (∀ Q : VK, Q v H' → ta σ' H' Q) → (∀ H'', Same H' H'' → Q' (.int (n0 : Nat)) H'') → tOp (rIx K) (tCall (spLeaves K 6) [] E0 (tCons ta tNil)) (tC (.int 0)) σ' H' Q' := fun {σ' H' ta Q'} sb pt he q' => by
    refine t_op (t_call1 (he _ ⟨S, t, knB sb pt, .cons (hdB sb) .nil, prT.1, fun w1 H'' s'' dw => t_c (ix_d (i := 0) off_sub dw rfl (x := nD n0) (by rw [List.getElem?_map, hn0]; rfl) fun u du => ?_)⟩))
    cases du
    exact q' _ s''
  refine s_seq (s_ifSet (fun σ' H' => ∃ vu u, σ' = [some (.ref p), some (.ref x), some v, some vu, none, none, none, none, none, none, none, none] ∧ SameBut p H H' ∧ PotAt H' p ∧ Dp K (off S H') vu (tD u) ∧ Snd t u) ?_ ?_)
  case _ =>
    rintro σ' H2 ⟨vu, u, rfl, sb2, pt2, duu, snd⟩
    have oku := snd.ok
    have l9 := snd.lv
    have okg : ∀ {k : Nat}, 1 ≤ k → k ≤ 2 → Okt (.gate false k [t, u]) := fun {k} h1 h2 => okt_join ok dp4 lv9 snd h1 h2 (fun r hr => by
      rcases List.mem_cons.mp hr with rfl | hr
      · exact .inl rfl
      · rw [List.mem_singleton.mp hr]; exact .inr (.inl rfl)) (by simp; omega)
    have okg3 : Okt (.gate false 1 [t, u, .leaf n0]) := okt_join ok dp4 lv9 snd (by decide) (by simp) (fun r hr => by
      rcases List.mem_cons.mp hr with rfl | hr
      · exact .inl rfl
      rcases List.mem_cons.mp hr with rfl | hr
      · exact .inr (.inl rfl)
      · rw [List.mem_singleton.mp hr]; exact .inr (.inr ⟨n0, rfl, hn0m⟩)) (by simp [lv_leaf]; omega)
    refine nx_of (s_seq (s_set (mk_tree (S := S) u oku (knB sb2 pt2) (fun Q' q' => t_var rfl (q' _ _ (Same.refl _) duu)) fun y H3 s3 hy => nx_of ?_)))
    have sb3 := sb_trans sb2 (sbut s3)
    have pt3 := pt2.same s3
    have kn3 := knB sb3 pt3
    have knA : ∀ {H'}, Same H3 H' → Kn S H' := fun {H'} s => kn3.same s
    have at_ : ∀ {H'}, Same H3 H' → TreeAt K C (off S H') t x := fun {H'} s => (htB sb3).same (off_same s)
    have ay_ : ∀ {H'}, Same H3 H' → TreeAt K C (off S H') u y := fun {H'} s => hy.same (off_same s)
    have hdA : ∀ {H'}, Same H3 H' → Dp K (off S H') v (tD t) := fun {H'} s => dp_same (off_same s) _ _ (hdB sb3)
    have duA : ∀ {H'}, Same H3 H' → Dp K (off S H') vu (tD u) := fun {H'} s => dp_same (off_same (s3.trans s)) _ _ duu
    have sbA : ∀ {H'}, Same H3 H' → SameBut p H H' := fun {H'} s => sb_trans sb3 (sbut s)
    have ptA : ∀ {H'}, Same H3 H' → PotAt H' p := fun {H'} s => pt3.same s
    have r0 := Same.refl H3
    -- the three
    refine s_seq (s_set (t_lst (a_cons (t_op (t_var rfl (t_var rfl ⟨isI_at (at_ r0), isI_at (ay_ r0), S, t, u, x, y, rfl, kn3, at_ r0, ay_ r0, ok, oku, okg (by decide) (by decide), fun z2 H4 s4 hz2 => a_cons ?_⟩))))))
    refine t_op (t_var rfl (t_var rfl ⟨isI_at (at_ s4), isI_at (ay_ s4), S, t, u, x, y, rfl, knA s4, at_ s4, ay_ s4, ok, oku, okg (by decide) (by decide), fun z1 H5 s5 hz1 => a_cons ?_⟩))
    have s35 := s4.trans s5
    refine t_sm (t_c ⟨rfl, a_cons (t_c (a_cons (t_var rfl (a_cons (t_var rfl (a_cons (leaf0 (sbA s35) (ptA s35) (fun Q' q' => t_var rfl q') fun H6 s6 => a_nil ?_)))))))⟩)
    have s36 := s35.trans s6
    refine ⟨[.int 1], [.ref x, .ref y, .int (n0 : Nat)], rfl, rfl, le3, fun pp hpp => ?_⟩
    have s7 := same_new (o := HO.tup [V.ref x, V.ref y, V.int (n0 : Nat)]) hpp
    have s37 := s36.trans s7
    refine ⟨S, pp, [.ref x, .ref y, .int (n0 : Nat)], [t, u, .leaf n0], 1, rfl, knA s37, upd_same, rfl, fun i v' t' h1 h2 => ?_, by decide, (show (1 : Nat) ≤ 3 by decide), (show (3 : Nat) ≤ 3 by decide), okg3, fun z3 H8 s8 hz3 => a_nil ⟨le3, fun B hB => nx_of ?_⟩⟩
    · match i with
      | 0 => cases h1; cases h2; exact .inl ⟨x, rfl, at_ s37, ok⟩
      | 1 => cases h1; cases h2; exact .inl ⟨y, rfl, ay_ s37, oku⟩
      | 2 => cases h1; cases h2; exact .inr ⟨n0, rfl, rfl, lv24 t ok.1 n0 hn0m⟩
      | i + 3 => simp at h1
    have s38 := s37.trans s8
    have s9 := same_new (o := HO.lst [V.ref z2, V.ref z1, V.ref z3]) hB
    have s39 := s38.trans s9
    have hB9 : (upd H8 B (.lst [V.ref z2, V.ref z1, V.ref z3])) B = some (.lst [.ref z2, .ref z1, .ref z3]) := upd_same
    generalize upd H8 B (.lst [V.ref z2, V.ref z1, V.ref z3]) = H9 at s9 s39 hB9
    have nB : ¬ S B := (knA s38).new hB
    -- the dues
    refine s_seq (s_set (t_lst (a_cons (due2 (knA s39) (hdA s39) (duA s39) (fun Q' q' => t_var rfl q') (fun Q' q' => t_var rfl q') fun w2 H10 s10 d10 => a_cons ?_))))
    have s310 := s39.trans s10
    refine due2 (knA s310) (hdA s310) (duA s310) (fun Q' q' => t_var rfl q') (fun Q' q' => t_var rfl q') fun w1 H11 s11 d11 => a_nil ⟨le2, fun Ds hDs => nx_of ?_⟩
    have s311 := s310.trans s11
    have s12 := same_new (o := HO.lst [w2, w1]) hDs
    have hD12 : (upd H11 Ds (.lst [w2, w1])) Ds = some (.lst [w2, w1]) := upd_same
    have s312 := s311.trans s12
    generalize upd H11 Ds (.lst [w2, w1]) = H12 at s12 hD12 s312
    refine s_seq (s_drop (t_bm (t_var rfl ⟨.inl ⟨rfl, _, sqL hD12⟩, a_cons ?_⟩)))
    refine t_tup (a_cons (t_c (a_cons (t_c (a_cons ?_)))))
    refine t_lst (a_cons (t_var rfl (a_cons (t_var rfl (a_cons ?_)))))
    refine leaf0 (sbA s312) (ptA s312) (fun Q' q' => t_var rfl q') fun H13 s13 => a_nil ⟨le3, fun q1 hq1 => a_nil ⟨le3, fun r1 hr1 => a_nil ?_⟩⟩
    have s313 := s312.trans s13
    have kn12 : Kn (plus S Ds) H12 := (knA s312).plus (some_ne hD12)
    have hv12 := dp_same (off_plus hDs s12) _ _ (hdA s311)
    have hu12 := dp_same (off_plus hDs s12) _ _ (duA s311)
    have s14 := same_new (o := HO.lst [v, vu, V.int (n0 : Nat)]) hq1
    have dq1 := dp_newL (K := K) (kn12.same s13) hq1 (ds := [tD t, tD u, nD n0]) (.cons (dp_same (off_same s13) _ _ hv12) (.cons (dp_same (off_same s13) _ _ hu12) (.cons (.int _) .nil)))
    have s15 := same_new (o := HO.tup [V.str "of", V.int 1, V.ref q1]) hr1
    have dr1 : Dp K (off (plus S Ds) (upd (upd H13 q1 (.lst [v, vu, V.int (n0 : Nat)])) r1 (.tup [V.str "of", V.int 1, V.ref q1]))) (.ref r1) (tD (.gate false 1 [t, u, .leaf n0])) := by
      rw [tD_gate]
      have e : [t, u, Kh.T.leaf n0].map tD = [tD t, tD u, nD n0] := by simp [tD_leaf, nD]
      rw [e]
      exact dp_newT ((kn12.same s13).same s14) hr1 (.cons (.str _) (.cons (.int 1) (.cons dq1 .nil)))
    have s1215 := s13.trans (s14.trans s15)
    generalize upd (upd H13 q1 (.lst [v, vu, V.int (n0 : Nat)])) r1 (.tup [V.str "of", V.int 1, V.ref q1]) = H15 at dr1 s1215
    have hD15 := s1215 _ _ hD12
    refine ⟨Ds, _, _, rfl, rfl, hD15, (show (2 : Nat) < sizeLine by decide), nx_of ?_⟩
    have s1116 : Same H11 (upd H15 Ds (.lst [w2, w1, .ref r1])) := smut (s12.trans s1215) hDs
    have hD16 : (upd H15 Ds (.lst [w2, w1, .ref r1])) Ds = some (.lst [w2, w1, .ref r1]) := upd_same
    have nDs : ¬ S Ds := (knA s311).new hDs
    have dr16 : Dp K (off S (upd H15 Ds (.lst [w2, w1, .ref r1]))) (.ref r1) (tD (.gate false 1 [t, u, .leaf n0])) := by
      refine dp_same (off_fin (D := Ds)) _ _ ?_
      rw [off_mut (show plus S Ds Ds from .inr rfl)]; exact dr1
    show tSeq _ _ _ _ (upd H15 Ds (.lst [w2, w1, .ref r1]))
    generalize upd H15 Ds (.lst [w2, w1, .ref r1]) = H16 at *
    have s316 := s311.trans s1116
    have s916 := s10.trans (s11.trans s1116)
    obtain ⟨gs, hgs⟩ : ∃ gs : List Kh.T, gs = [.gate false 2 [t, u], .gate false 1 [t, u], .gate false 1 [t, u, .leaf n0]] := ⟨_, rfl⟩
    have gl : gs.length = 3 := by rw [hgs]; rfl
    have gok : ∀ g ∈ gs, Okt g ∧ flg false g = g := fun g hg => by
      rw [hgs] at hg
      have f2 : ∀ {k : Nat}, flg false (.gate false k [t, u]) = .gate false k [t, u] := fun {k} => flg_join fun r hr => by
        rcases List.mem_cons.mp hr with rfl | hr
        · exact fl
        · rw [List.mem_singleton.mp hr]; exact snd.fl
      rcases List.mem_cons.mp hg with rfl | hg
      · exact ⟨okg (by decide) (by decide), f2⟩
      rcases List.mem_cons.mp hg with rfl | hg
      · exact ⟨okg (by decide) (by decide), f2⟩
      · rw [List.mem_singleton.mp hg]
        refine ⟨okg3, flg_join fun r hr => ?_⟩
        rcases List.mem_cons.mp hr with rfl | hr
        · exact fl
        rcases List.mem_cons.mp hr with rfl | hr
        · exact snd.fl
        · rw [List.mem_singleton.mp hr]; exact flg_leaf _ _
    have joints : ∀ {H'}, Same H16 H' → ∀ (i : Nat) b g, [V.ref z2, V.ref z1, V.ref z3][i]? = some b → gs[i]? = some g → ∃ z, b = .ref z ∧ TreeAt K C (off S H') g z := fun {H'} s i b g h1 h2 => by
      rw [hgs] at h2
      have s916' := s9.trans (s916.trans s)
      match i with
      | 0 => cases h1; cases h2; exact ⟨z2, rfl, hz2.same (off_same ((s5.trans s6).trans (s7.trans (s8.trans s916'))))⟩
      | 1 => cases h1; cases h2; exact ⟨z1, rfl, hz1.same (off_same (s6.trans (s7.trans (s8.trans s916'))))⟩
      | 2 => cases h1; cases h2; exact ⟨z3, rfl, hz3.same (off_same s916')⟩
      | i + 3 => simp at h1
    have dues : ∀ {H'}, Same H16 H' → DpAll K (off S H') [w2, w1, .ref r1] (gs.map tD) := fun {H'} s => by
      rw [hgs]
      exact .cons (dp_same (off_same (s11.trans (s1116.trans s))) _ _ d10) (.cons (dp_same (off_same (s1116.trans s)) _ _ d11) (.cons (dp_same (off_same s) _ _ dr16) .nil))
    have hBA : ∀ {H'}, Same H16 H' → H' B = some (.lst [.ref z2, .ref z1, .ref z3]) := fun {H'} s => s _ _ (s916 _ _ hB9)
    have hDA : ∀ {H'}, Same H16 H' → H' Ds = some (.lst [w2, w1, .ref r1]) := fun {H'} s => s _ _ hD16
    have kn16 := knA s316
    have offL : ∀ {H' : Hp} {l : Addr} {xs : List V}, ¬ S l → H' l = some (.lst xs) → SqL K (off S H') l xs := fun {H' l xs} n h => sqL (by rw [off_out n]; exact h)
    have r16 := Same.refl H16
    refine s_seq (s_if (b_or (b_test (t_op (lc_genL (K := K) (fun j y H' => ∀ g, gs[j]? = some g → Dp K H' y (tD g)) (fun j y H1 H2 e h g hg => dp_same e _ _ (h g hg)) kn16 (fun Q' q' => t_var rfl q') (offL nB (hBA r16)) (show (3 : Nat) ≤ 100000 by decide) (fun _ => rfl) (fun j b H' S' hb s' kn' ho Q' q' => ?_) fun L H17 ys hL s17 hL17 hy17 py => ?_)))))
    · have hj : j < 3 := (List.getElem?_eq_some_iff.mp hb).1
      obtain ⟨g, hg⟩ : ∃ g, gs[j]? = some g := ⟨_, List.getElem?_eq_getElem (by omega)⟩
      obtain ⟨z, rfl, hz⟩ := joints r16 j b g hb hg
      have hz' := hz.same ho
      obtain ⟨dz, y1, y2, y3, hz0, _⟩ := id hz'
      have gk := gok g (List.mem_of_getElem? hg)
      refine t_prop (t_var rfl ⟨z, dz, _, rfl, (off_some hz0).2, S', g, z, rfl, kn', hz', gk.1, fun w H'' s'' dw => q' w H'' s'' fun g' hg' => ?_⟩)
      rw [hg] at hg'; cases hg'
      have dw' := dw.dp (K := K)
      rw [gk.2] at dw'
      exact dp_same (off_less (old_of kn')) _ _ dw'
    have dL : Dp K (off S H17) (.ref L) (.list (gs.map tD)) := dp_lst (kn16.new hL) hL17 (dpa_of (by rw [hy17, List.length_map, gl]; rfl) fun i y d h1 h2 => by
      rw [List.getElem?_map] at h2
      cases e : gs[i]? with
      | none => rw [e] at h2; cases h2
      | some g => rw [e] at h2; cases h2; exact py i y h1 g e)
    have dD17 : Dp K (off S H17) (.ref Ds) (.list (gs.map tD)) := .lst (offL nDs (hDA s17)) (dues s17)
    have shg : SeqAt.shaped (.list (gs.map tD)) = true := (nice_list (niceA_map (f := tD) (g := fun _ => 50000) (m := 10) gs fun g hg => nice_of (gok g hg).1)).shaped (by decide)
    have eqg : PyData.eqv (.list (gs.map tD)) (.list (gs.map tD)) = true := eqv_list fun d hd => by
      obtain ⟨g, _, rfl⟩ := List.mem_map.mp hd
      exact eqv_tree g
    refine t_var rfl ⟨_, _, dp_same off_sub _ _ dL, dp_same off_sub _ _ dD17, shg, shg, ?_⟩
    rw [eqg]
    refine ⟨_, rfl, ifF rfl (b_test (t_op (t_var rfl (lc_genL (K := K) (fun j y H' => ∃ z g, gs[j]? = some g ∧ y = .ref z ∧ TreeAt K C H' g z) (fun j y H1 H2 e ⟨z, g, h1, h2, h3⟩ => ⟨z, g, h1, h2, h3.same e⟩) (kn16.same s17) (fun Q' q' => t_var rfl q') (offL nDs (hDA s17)) (show (3 : Nat) ≤ 100000 by decide) (fun _ => rfl) (fun j b H' S' hb s' kn' ho Q' q' => ?_) fun Lw H18 ys2 hL2 s18 hL218 hy18 py2 => ?_))))⟩
    · obtain ⟨d, hd', db⟩ := dpa_at (dues s17) hb
      rw [List.getElem?_map] at hd'
      cases e : gs[j]? with
      | none => rw [e] at hd'; cases hd'
      | some g =>
        rw [e] at hd'
        cases hd'
        exact mk_tree g (gok g (List.mem_of_getElem? e)).1 kn' (fun Q2 q2 => t_var rfl (q2 _ _ (Same.refl _) (dp_same ho _ _ db))) fun z H'' s'' hz => q' _ H'' s'' ⟨z, g, e, rfl, hz⟩
    have s1618 := s17.trans s18
    refine ⟨⟨B, Lw, _, _, rfl, rfl, hBA s1618, hL218, by rw [hy18]; rfl, fun i b y h1 h2 => ?_⟩, fun H19 s19 => ⟨_, rfl, ifF rfl (s_next ?_)⟩⟩
    · obtain ⟨z', g, hg, rfl, hz'⟩ := py2 i y h2
      obtain ⟨z, rfl, hz⟩ := joints s1618 i b g h1 hg
      have gk := gok g (List.mem_of_getElem? hg)
      obtain ⟨dz, _, _, _, e1, _⟩ := id hz
      obtain ⟨dz', _, _, _, e2, _⟩ := id hz'
      exact ⟨z, z', dz, dz', _, _, rfl, rfl, (off_some e1).2, (off_some e2).2, S, g, g, kn16.same s1618, hz, hz', gk.1, gk.1, rfl⟩
    have s1619 := s1618.trans s19
    -- each of them
    refine s_seq ?_
    show iZip K (tCons (tVar 5) (tCons (tVar 6) tNil)) _ _ _
    refine r_zip (a_cons (t_var rfl (a_cons (t_var rfl (a_nil ⟨B, Ds, _, _, rfl, sqL (hBA s1619), sqL (hDA s1619), ?_⟩)))))
    refine for_it (walk_zip (n := 3) rfl) (fun i σ' H' => ∃ (x7 x8 x9 x10 x11 : Option V), σ' = [some (.ref p), some (.ref x), some v, some vu, some (.ref y), some (.ref B), some (.ref Ds), x7, x8, x9, x10, x11] ∧ Same H19 H') ⟨_, _, _, _, _, rfl, Same.refl _⟩ (fun i σ' H' _ ⟨_, _, _, _, _, _, s⟩ => ⟨sqL (hBA (s1619.trans s)), sqL (hDA (s1619.trans s))⟩) ?_ ?_
    · rintro i bd σ' H20 H21 hi ⟨x7, x8, x9, x10, x11, rfl, s20⟩ ⟨T0, b, d, rfl, hT, rfl, hb, hd'⟩
      have s1620 := s1619.trans s20
      have sT := same_new (o := HO.tup [b, d]) hT
      have s1621 := s1620.trans sT
      have hT1 : (upd H20 T0 (.tup [b, d])) T0 = some (.tup [b, d]) := upd_same
      generalize upd H20 T0 (.tup [b, d]) = H21 at sT s1621 hT1
      obtain ⟨g, hg⟩ : ∃ g, gs[i]? = some g := ⟨_, List.getElem?_eq_getElem (by omega)⟩
      obtain ⟨z, rfl, hz⟩ := joints s1621 i b g hb hg
      obtain ⟨okz, flz⟩ := gok g (List.mem_of_getElem? hg)
      obtain ⟨dd, edd, dd'⟩ := dpa_at (dues s1621) hd'
      rw [List.getElem?_map, hg] at edd
      cases edd
      have prG : preL 6 g := ⟨preOf okz, by have := okz.2.1; omega⟩
      have knZ : ∀ {H'}, Same H21 H' → Kn S H' := fun {H'} s => kn16.same (s1621.trans s)
      have hzA : ∀ {H'}, Same H21 H' → TreeAt K C (off S H') g z := fun {H'} s => hz.same (off_same s)
      have ddA : ∀ {H'}, Same H21 H' → Dp K (off S H') d (tD g) := fun {H'} s => dp_same (off_same s) _ _ dd'
      obtain ⟨dz, y1, y2, y3, hz0, _⟩ := id hz
      have r21 := Same.refl H21
      refine ⟨T0, [.ref z, d], rfl, sqT hT1, rfl, .ref z, [d], rfl, g_name ⟨d, [], rfl, g_name ⟨rfl, ?_⟩⟩⟩
      refine s_seq (s_set (t_lst (a_cons (t_prop (t_var rfl ⟨z, dz, _, rfl, (off_some hz0).2, S, g, z, (), [], rfl, knZ r21, hz, okz, .nil, trivial, fun u1 H22 s22 e1 => a_cons ?_⟩)))))
      refine t_meth0 (t_var rfl ⟨z, dz, _, rfl, s22 _ _ (off_some hz0).2, rfl, S, g, z, (), [], rfl, knZ s22, hzA s22, okz, .nil, trivial, fun u2 H23 s23 e2 => a_cons ?_⟩)
      have s213 := s22.trans s23
      refine t_cb1 (t_var rfl ⟨_, rfl, isI_at (hzA s213), S, g, z, (), [], rfl, knZ s213, hzA s213, okz, .nil, trivial, fun u3 H24 s24 e3 => ?_⟩)
      cases e3
      have s214 := s213.trans s24
      refine ⟨(lv g).length, rfl, by have := okz.2.1; omega, a_nil ⟨le3, fun L4 hL4 => nx_of ?_⟩⟩
      have s25 := same_new (o := HO.lst [u1, u2, V.int ((lv g).length : Nat)]) hL4
      have dT : Dp K (off S (upd H24 L4 (.lst [u1, u2, V.int ((lv g).length : Nat)]))) (.ref L4) (.list [.bool (decide ((lv g).length = (mem g).length)), nL (mem g), nD (lv g).length]) := dp_newL (knZ s214) hL4 (.cons (dp_same (off_same (s23.trans s24)) _ _ e1) (.cons (dp_same (off_same s24) _ _ e2) (.cons (.int _) .nil)))
      have s215 := s214.trans s25
      generalize upd H24 L4 (.lst [u1, u2, V.int ((lv g).length : Nat)]) = H25 at s215 dT
      refine s_seq (s_if (b_test (t_op (t_var rfl (t_lst (a_cons (t_call1 (t_var rfl ⟨S, g, knZ s215, .cons (ddA s215) .nil, prG, fun v1 H26 s26 e1 => a_cons ?_⟩))))))))
      have s216 := s215.trans s26
      refine t_call1 (t_var rfl ⟨S, g, knZ s216, .cons (ddA s216) .nil, prG, fun v2 H27 s27 e2 => a_cons ?_⟩)
      have s217 := s216.trans s27
      refine t_cb1 (t_call1 (t_var rfl ⟨S, g, knZ s217, .cons (ddA s217) .nil, prG.1, fun v3 H28 s28 e3 => len_d off_sub e3 rfl (a_nil ⟨le3, fun L5 hL5 => ?_⟩)⟩))
      have s218 := s217.trans s28
      rw [List.length_map]
      have s29 := same_new (o := HO.lst [v1, v2, V.int ((lv g).length : Nat)]) hL5
      have dT2 : Dp K (off S (upd H28 L5 (.lst [v1, v2, V.int ((lv g).length : Nat)]))) (.ref L5) (.list [.bool (decide ((lv g).length = (mem g).length)), nL (mem g), nD (lv g).length]) := dp_newL (knZ s218) hL5 (.cons (dp_same (off_same (s27.trans s28)) _ _ e1) (.cons (dp_same (off_same s28) _ _ e2) (.cons (.int _) .nil)))
      have s219 := s218.trans s29
      have sh3 : SeqAt.shaped (.list [.bool (decide ((lv g).length = (mem g).length)), nL (mem g), nD (lv g).length]) = true :=
        (nice_list (niceA_cons ((nice_bool _).mono (Nat.le_refl _) (show 0 ≤ 1 by decide)) (niceA_cons (nice_nL (mem24 (t := g)) (by have := mem_le g; omega)) (niceA_cons ((nice_int (n := (lv g).length) (by have := okz.2.1; omega)).mono (Nat.le_refl _) (show 0 ≤ 1 by decide)) (niceA_nil.mono (Nat.le_refl _) (show 0 ≤ 1 by decide)))))).shaped (by decide)
      have eq3 : PyData.eqv (.list [.bool (decide ((lv g).length = (mem g).length)), nL (mem g), nD (lv g).length]) (.list [.bool (decide ((lv g).length = (mem g).length)), nL (mem g), nD (lv g).length]) = true := eqv_list fun d hd => by
        rcases List.mem_cons.mp hd with rfl | hd
        · exact eqv_bool _
        rcases List.mem_cons.mp hd with rfl | hd
        · exact eqv_nL _
        · rw [List.mem_singleton.mp hd]; exact eqv_int _
      refine ⟨_, _, dp_same off_sub _ _ (dp_same (off_same (((s26.trans s27).trans s28).trans s29)) _ _ dT), dp_same off_sub _ _ dT2, sh3, sh3, ?_⟩
      rw [eq3]
      refine ⟨_, rfl, ifF rfl (s_next ?_)⟩
      generalize upd H28 L5 (.lst [v1, v2, V.int ((lv g).length : Nat)]) = H29 at s219
      refine s_if (b_not (b_val (t_cb1 (lc_rngB (K := K) (n := 24) (fun _ => true) (knZ s219) (by decide) (fun q' h' => a_cons (t_c (a_nil (h' _ (Same.refl _))))) (fun _ => rfl) (fun j H30 S' hj s30 kn30 hS' ho Q' q' => ?_) fun L6 H30 s30 dL6 => ?_))))
      · have hz30 := (hzA s219).same ho
        refine t_op (t_op (t_var rfl (t_var rfl ⟨isI_at hz30, S', g, z, .int (j : Nat), [.int (j : Nat)], rfl, kn30, hz30, okz, .cons (.int _) .nil, trivial, fun b1 H31 s31 eb => ?_⟩)))
        have eb' : Dp K (off S' H31) b1 (.bool (inT g (.int (j : Nat)))) := eb
        rw [inT_nat] at eb'
        cases eb'
        refine ⟨_, rfl, t_op (t_var rfl (t_call1 (t_var rfl ⟨S', g, kn30.same s31, .cons (dp_same (ho.trans (off_same s31)) _ _ (ddA s219)) .nil, prG, fun hv H32 s32 eh => ?_⟩)))⟩
        refine in_d (ns := (mem g).map fun m : Nat => ((m : Nat) : Int)) off_sub eh (by unfold nL; rw [← nD_map]; rfl) ?_
        have e : decide (((j : Nat) : Int) ∈ (mem g).map fun m : Nat => ((m : Nat) : Int)) = decide (j ∈ mem g) := decide_eq_decide.mpr mem_ints
        show rEq (.bl (decide (j ∈ mem g))) (.bl (decide (((j : Nat) : Int) ∈ (mem g).map fun m : Nat => ((m : Nat) : Int)))) H32 Q'
        rw [e]
        refine ⟨rfl, ?_⟩
        rw [decide_eq_true rfl]
        exact q' _ (s31.trans s32)
      · refine all_d (bs := (List.range 24).map fun _ => true) off_sub dL6 ⟨_, rfl, ifF (by rw [all_map fun _ _ => rfl]; rfl) (s_next ⟨_, _, _, _, _, rfl, (((s20.trans sT).trans s219).trans s30)⟩)⟩
    · rintro σ' H20 ⟨x7, x8, x9, x10, x11, rfl, s20⟩
      have s1620 := s1619.trans s20
      have s320 := s316.trans s1620
      refine nx_of ?_
      have h20 := Same.refl H20
      have du2' : ∀ {a b : Nat} {H' : Hp} {σ'' : L2.St} {Q' : VK}, Kn S H' → (∀ w H'', Same H' H'' → Dp K (off S H'') w (tD (two a b)) → Q' w H'') → tTup (tCons (tC (.str "of")) (tCons (tC (.int 1)) (tCons (tLst (tCons (tC (.int (a : Nat))) (tCons (tC (.int (b : Nat))) tNil))) tNil))) σ'' H' Q' := fun {a b H' σ'' Q'} kn' q' =>
        due2 (t := .leaf a) (u := .leaf b) (k := 1) kn' (by rw [tD_leaf]; exact .int _) (by rw [tD_leaf]; exact .int _) (fun Q2 q2 => t_c q2) (fun Q2 q2 => t_c q2) q'
      refine s_seq (s_if (b_test (t_op (mk_tree (S := S) (two 0 1) (okt_two (by decide) (by decide)) (knA s320) (fun Q2 q2 => du2' (knA s320) q2) fun zA H21 s21 hA => ?_))))
      have s321 := s320.trans s21
      refine mk_tree (S := S) (two 1 0) (okt_two (by decide) (by decide)) (knA s321) (fun Q2 q2 => du2' (knA s321) q2) fun zB H22 s22 hB' => ?_
      have s322 := s321.trans s22
      refine ⟨isI_at (hA.same (off_same s22)), .inl (isI_at hB'), S, two 0 1, zA, .ref zB, rfl, knA s322, hA.same (off_same s22), okt_two (by decide) (by decide), .inl ⟨two 1 0, zB, rfl, hB', okt_two (by decide) (by decide), fun H23 s23 => ⟨_, rfl, ?_⟩⟩⟩
      rw [two_ne]
      refine ifF rfl (s_next ?_)
      have s323 := s322.trans s23
      have s1623 := s1620.trans ((s21.trans s22).trans s23)
      refine s_ret (t_andV (t_op (t_sm (t_c ⟨rfl, a_cons (t_c (a_cons (t_var rfl (a_cons (t_var rfl (a_nil ?_))))))⟩))))
      refine ⟨[.int 2], [.ref x, .ref y], rfl, rfl, le2, fun pp hpp => ?_⟩
      have s24 := same_new (o := HO.tup [V.ref x, V.ref y]) hpp
      have s324 := s323.trans s24
      refine ⟨S, pp, [.ref x, .ref y], [t, u], 2, rfl, knA s324, upd_same, rfl, fun i v' t' h1 h2 => ?_, by decide, Nat.le_refl _, (show (2 : Nat) ≤ 3 by decide), okg (by decide) (by decide), fun zz H25 s25 hzz => ?_⟩
      · match i with
        | 0 => cases h1; cases h2; exact .inl ⟨x, rfl, at_ s324, ok⟩
        | 1 => cases h1; cases h2; exact .inl ⟨y, rfl, ay_ s324, oku⟩
        | i + 2 => simp at h1
      have s325 := s324.trans s25
      have s1625 := s1623.trans (s24.trans s25)
      have g0 : gs[0]? = some (.gate false 2 [t, u]) := by rw [hgs]; rfl
      obtain ⟨zj, ezj, hj⟩ := joints s1625 0 (.ref z2) _ rfl g0
      cases ezj
      refine t_op (t_var rfl (t_c (.inl ⟨B, _, ((0 : Nat) : Int), .ref z2, rfl, rfl, sqL (hBA s1625), atI_nat (j := 0) rfl, ?_⟩)))
      refine ⟨isI_at hzz, .inl (isI_at hj), S, .gate false 2 [t, u], zz, .ref z2, rfl, knA s325, hzz, okg (by decide) (by decide), .inl ⟨_, z2, rfl, hj, okg (by decide) (by decide), fun H26 s26 => ?_⟩⟩
      rw [sameT_refl]
      have s326 := s325.trans s26
      obtain ⟨dx, a1, a2, a3, hx0, _⟩ := id (at_ s326)
      refine bl_ifT (t_andV (t_op (t_prop (t_var rfl ⟨x, dx, _, rfl, (off_some hx0).2, S, t, x, rfl, knA s326, at_ s326, ok, fun w1' H27 s27 e1 => ?_⟩))))
      have s327 := s326.trans s27
      have e1' := e1.dp (K := K)
      rw [fl] at e1'
      refine t_var rfl ⟨_, _, dp_same off_sub _ _ e1', dp_same off_sub _ _ (hdA s327), (nice_of ok).shaped (by decide), (nice_of ok).shaped (by decide), ?_⟩
      rw [eqv_tree]
      obtain ⟨dy, b1, b2, b3, hy0, _⟩ := id (ay_ s327)
      refine bl_ifT (t_op (t_prop (t_var rfl ⟨y, dy, _, rfl, (off_some hy0).2, S, u, y, rfl, knA s327, ay_ s327, oku, fun w2' H28 s28 e2 => ?_⟩)))
      have s328 := s327.trans s28
      have e2' := e2.dp (K := K)
      rw [snd.fl] at e2'
      refine t_var rfl ⟨_, _, dp_same off_sub _ _ e2', dp_same off_sub _ _ (duA s328), (nice_of oku).shaped (by decide), (nice_of oku).shaped (by decide), ?_⟩
      rw [eqv_tree]
      exact q _ (sbA s328) (ptA s328)
  case _ =>
    intro N hN
    refine b_test (t_op (t_cb1 (t_cb1 (t_op (t_call1 (t_var rfl ⟨S, t, knB sb1 pt1, .cons (hdB sb1) .nil, prT, fun a1 H2 s2 d1 => ?_⟩))))))
    have sb2 := sb_trans sb1 (sbut s2)
    have du02 := dp_same (off_same s2) _ _ du0
    refine t_call1 (t_var rfl ⟨S, u0, knB sb2 (pt1.same s2), .cons du02 .nil, ⟨preOf oku0, by have := shp.len; omega⟩, fun a2 H3 s3 d2 => ?_⟩)
    have sb3 := sb_trans sb2 (sbut s3)
    have lt := mem_le t
    have lu := mem_le u0
    refine cat_d (ds := (mem t).map nD) (es := (mem u0).map nD) (knB sb3 ((pt1.same s2).same s3)) (dp_same (off_same s3) _ _ d1) d2 (by rw [List.length_map, List.length_map]; omega) fun c H4 s4 d4 => ?_
    have sb4 := sb_trans sb3 (sbut s4)
    have pt4 := (((pt1.same s2).same s3).same s4)
    rw [← List.map_append] at d4
    obtain ⟨l, xs, rfl, hsl, hal⟩ := list_at d4
    have ex := dpa_ints (ns := (mem t ++ mem u0).map fun m : Nat => ((m : Nat) : Int)) (by rw [← nD_map]; exact hal)
    subst ex
    refine ⟨l, (mem t ++ mem u0).map fun m : Nat => ((m : Nat) : Int), rfl, off_sub.seq hsl, by rw [List.length_map, List.length_append]; omega, fun pp n hpp hn => ?_⟩
    rw [List.length_map, List.length_append] at hn
    have s5 := same_new (o := SetO w pp (fun j => decide (j ∈ (mem t ++ mem u0).map fun m : Nat => ((m : Nat) : Int))) n) hpp
    have sb5 := sb_trans sb4 (sbut s5)
    have pt5 := pt4.same s5
    refine ⟨pp, _, n, rfl, upd_same, by omega, fun ns nd hm hl => t_c ⟨_, _, rfl, rfl, _, rfl, if_b (fun c => ?_) (fun c => ?_)⟩⟩
    · refine t_op (t_call1 (t_var rfl ⟨S, t, knB sb5 pt5, .cons (hdB sb5) .nil, prT.1, fun w1 H6 s6 dw => t_c (ix_d (i := 0) off_sub dw rfl (x := nD n0) (by rw [List.getElem?_map, hn0]; rfl) fun u du => ?_)⟩))
      cases du
      refine hN _ _ ⟨_, .leaf n0, rfl, sb_trans sb5 (sbut s6), pt5.same s6, by rw [tD_leaf]; exact .int _, ⟨⟨by rw [Wf]; exact lv24 t ok.1 n0 hn0m, by rw [lv_leaf]; show (1 : Nat) ≤ 24; decide, by simp [dep], .inl (by
        rw [lv_leaf]
        exact List.length_pos_iff.mpr fun e => by
          have := (mem_iff (t := .leaf n0) (by rw [Wf]; exact lv24 t ok.1 n0 hn0m) n0).mpr (by rw [lv_leaf]; exact List.mem_singleton.mpr rfl)
          rw [e] at this; cases this)⟩, flg_leaf _ _, by simp [dep], by rw [lv_leaf]; show (1 : Nat) ≤ 9; decide, ?_⟩⟩
      refine Nat.le_trans (sub_len (ns := mem t) (List.nodup_range.filter _) fun n hn => ?_) (Nat.le_trans m6 (by decide))
      have h2 := of_decide_eq_true (List.mem_filter.mp hn).2
      refine (mem_iff ok.1 n).mpr ?_
      rcases List.mem_append.mp h2 with h | h
      · exact h
      · rw [lv_leaf] at h; rw [List.mem_singleton.mp h]; exact hn0m
    · refine hN _ _ ⟨vu0, u0, rfl, sb5, pt5, dp_same (off_same ((s2.trans s3).trans (s4.trans s5))) _ _ du0, ⟨oku0, shp.fl, shp.dp, shp.len, ?_⟩⟩
      have n8 : n ≤ 8 := by have := of_decide_eq_false c; omega
      have cmp := sub_lenI (l := ((List.range 24).filter fun n => decide (n ∈ lv t ++ lv u0)).map fun m : Nat => ((m : Nat) : Int)) (ns := ns) ?_ ?_
      · rw [List.length_map] at cmp; omega
      · exact (rise_nat (List.Pairwise.filter _ List.pairwise_lt_range)).imp fun h => Int.ne_of_lt h
      · intro z hz
        obtain ⟨m, hm', rfl⟩ := List.mem_map.mp hz
        rw [hm, decide_eq_true_eq]
        refine List.mem_map.mpr ⟨m, ?_, rfl⟩
        have h2 := of_decide_eq_true (List.mem_filter.mp hm').2
        rcases List.mem_append.mp h2 with h | h
        · exact List.mem_append_left _ ((mem_iff ok.1 m).mpr h)
        · exact List.mem_append_right _ ((mem_iff shp.wf m).mpr h)
end
end K31

set_option maxRecDepth 100000
set_option maxHeartbeats 4000000
namespace K31
open PySem PySem.Spec PyProof.Rows L2 Kh
/-- non-lists stay -/
def Oth (H H' : Hp) : Prop := ∀ b o, (∀ xs, o ≠ .lst xs) → H b = some o → H' b = some o
theorem sqt_oth {K : PySem.W.Frag} {H H' : Hp} {a : Addr} {xs : List V} (e : Oth H H') (h : SqT K H a xs) : SqT K H' a xs := by
  rcases h with (h | ⟨o, h⟩) | h
  · exact .inl (.inl (e _ _ (fun us z => by cases z) h))
  · exact .inl (.inr ⟨o, e _ _ (fun us z => by cases z) h⟩)
  · exact .inr h
theorem dpa_oth {K : PySem.W.Frag} {H H' : Hp} {ds : List PyData} (h : ∀ d ∈ ds, ∀ v, Dp K H v d → Dp K H' v d) : ∀ {vs : List V}, DpAll K H vs ds → DpAll K H' vs ds := by
  induction ds with
  | nil => intro vs q; cases q; exact .nil
  | cons d ds ih => intro vs q; cases q with
    | cons h1 h2 => exact .cons (h d List.mem_cons_self _ h1) (ih (fun e he => h e (List.mem_cons_of_mem _ he)) h2)
/-- data of tuples alone -/
theorem tup_oth {K : PySem.W.Frag} {H H' : Hp} (e : Oth H H') : ∀ t : Kh.T, ∀ v, Dp K H v (tD (flg true t)) → Dp K H' v (tD (flg true t)) := Kh.T.ind (fun n v h => by rw [flg_leaf, tD_leaf] at *; cases h; exact .int _) fun b k ps ih v h => by
  rw [flg_gate, tD_gate] at *
  cases h with
  | tup hs ha =>
    refine .tup (sqt_oth e hs) (dpa_oth (fun d hd w hw => ?_) ha)
    rcases List.mem_cons.mp hd with rfl | hd
    · cases hw; exact .str _
    rcases List.mem_cons.mp hd with rfl | hd
    · cases hw; exact .int _
    · obtain rfl := List.mem_singleton.mp hd
      have hw' : Dp K H w (.tuple ((ps.map (flg true)).map tD)) := hw
      cases hw' with
      | tup hs2 ha2 =>
        refine (Dp.tup (sqt_oth e hs2) (dpa_oth (fun d hd w2 hw2 => ?_) ha2) : Dp K H' _ (.tuple ((ps.map (flg true)).map tD)))
        rw [List.map_map] at hd
        obtain ⟨p, hp, rfl⟩ := List.mem_map.mp hd
        exact ih p hp w2 hw2
theorem nums_oth {K : PySem.W.Frag} {H H' : Hp} (e : Oth H H') {v : V} {ns : List Nat} (h : Dp K H v (.tuple (ns.map nD))) : Dp K H' v (.tuple (ns.map nD)) := by
  cases h with
  | tup hs ha => exact .tup (sqt_oth e hs) (dpa_oth (fun d hd w hw => by
      obtain ⟨n, _, rfl⟩ := List.mem_map.mp hd
      cases hw; exact .int _) ha)
theorem TreeAt.oth {K : PySem.W.Frag} {C : Addr} {H H' : Hp} {t : Kh.T} {x : Addr} (h : TreeAt K C H t x) (e : Oth H H') : TreeAt K C H' t x := by
  obtain ⟨dx, v1, v2, v3, h0, h1, h2, h3⟩ := h
  exact ⟨dx, v1, v2, v3, e _ _ (fun us z => by cases z) h0, tup_oth e t v1 h1, nums_oth e h2, nums_oth e h3⟩
theorem oth_off {S : Addr → Prop} {H H' : Hp} (e : Oth H H') : Oth (off S H) (off S H') := fun b o n h => by
  obtain ⟨ns, h⟩ := off_some h
  rw [off_out ns]; exact e b o n h
open Classical in
/-- the heap without what was made between two of its states -/
noncomputable def mid (Ha Hb H : Hp) : Hp := fun b => if Ha b = none ∧ Hb b ≠ none then none else H b
theorem mid_in {Ha Hb H : Hp} : Same (mid Ha Hb H) H := fun b o h => by
  unfold mid at h
  split at h
  · cases h
  · exact h
theorem mid_out {Ha Hb H : Hp} {b : Addr} (h : ¬ (Ha b = none ∧ Hb b ≠ none)) : mid Ha Hb H b = H b := by unfold mid; rw [if_neg h]
theorem np_mid {Ha Hb H : Hp} (s : Same Hb H) {v : V} {d : PyData} (h : Np (off (old Ha) Hb) v d) : Np (off (old (mid Ha Hb H)) H) v d := by
  refine h.same fun b o hb => ?_
  obtain ⟨n, hb⟩ := off_some hb
  have n' : Ha b = none := Classical.byContradiction fun z => n z
  have e : mid Ha Hb H b = none := by unfold mid; rw [if_pos ⟨n', some_ne hb⟩]
  rw [off_out (fun z => z e)]
  exact s b o hb
section
variable {P : Program} {w : World} {K : PySem.W.Frag} {mg : Str → Option Value} {base : Heap} {a : Nat → Addr} {fd : Nat → FuncData} {C : Addr} {tk : Nat → Tok}
/-- tree.members(), a new list -/
def spMembersN (K : PySem.W.Frag) (C : Addr) : Sp := fun vs H Q _ => ∃ (S : Addr → Prop) (t : Kh.T) (x : Addr), vs = [.ref x] ∧ Kn S H ∧ TreeAt K C (off S H) t x ∧ ∀ l H', H l = none → Same H H' → H' l = some (.lst (ivs (mem t))) → Q (.ref l) H'
theorem ok_Tree_membersN (T : Txt K mg a fd C tk) (U : TxC K mg a C) : FnOk P w K mg base CX0 1 (a 17) (fd 17) ["self"] (spMembersN K C) := by
  refine T.F_Tree_members.ok sc_Tree_members (fun vs H Q E h => by obtain ⟨_, _, _, rfl, _⟩ := h; rfl) (fun cdv A outer s H vs Q E hr h => ?_)
  obtain ⟨S, t, x, rfl, kn, ⟨dx, v1, v2, v3, hx, d1, d2, d3⟩, q⟩ := h
  refine ⟨_, (pss_one (ps_ret (pe_callTy (k_list (K := K)) (by rfl) T.z_list (by decide +kernel) (pa_cons (k_fld (K := K) (pv 0) rfl) pa_nil)))), ?_⟩
  refine s_ret (t_cb1 (t_fld (t_var rfl ⟨x, C, dx, _, v3, rfl, (off_some hx).2, U.cls, U.n_members, rfl, list_d kn d3 rfl fun l xs hl ha h => ?_⟩)))
  have ex := dpa_nats ha
  subst ex
  exact q l _ hl (same_new hl) upd_same
theorem s_setC {te : TE} {i : Nat} {σ : L2.St} {H : Hp} {D : Ends} (Cnd : V → Hp → Prop) (k : ∀ v H', Cnd v H' → D.nx (σ.set i (some v)) H') (h : ∀ N : VK, (∀ v H', Cnd v H' → N v H') → te σ H N) : tAsg te (gName i) D σ H := h (fun v H' => D.nx (σ.set i (some v)) H') k
theorem s_ifDrop {tt : TT} {te : TE} {σ : L2.St} {H : Hp} {D : Ends} (Cnd : Hp → Prop) (k : ∀ H', Cnd H' → D.nx σ H') (h : ∀ N : Hp → Prop, (∀ H', Cnd H' → N H') → tt σ H fun b H1 => if b = true then te σ H1 (fun _ H2 => N H2) else N H1) : tIfS tt (tDrop te) tNext D σ H := h (fun H' => D.nx σ H') k
/-- ('of', 1, [a]) of data -/
theorem due1 {K : PySem.W.Frag} {S : Addr → Prop} {σ : L2.St} {H : Hp} {ta : TE} {t : Kh.T} {v1 : V} {Q : VK} (kn : Kn S H) (d1 : Dp K (off S H) v1 (tD t)) (ea : ∀ Q : VK, Q v1 H → ta σ H Q)
    (q : ∀ v H', Same H H' → Dp K (off S H') v (tD (.gate false 1 [t])) → Q v H') : tTup (tCons (tC (.str "of")) (tCons (tC (.int 1)) (tCons (tLst (tCons ta tNil)) tNil))) σ H Q := by
  refine t_tup (a_cons (t_c (a_cons (t_c (a_cons (t_lst (a_cons (ea _ (a_nil ⟨le1, fun p hp => a_nil ⟨le3, fun r hr => ?_⟩⟩)))))))))
  have sp := same_new (o := HO.lst [v1]) hp
  refine q _ _ (sp.trans (same_new hr)) ?_
  rw [tD_gate]
  exact dp_newT (kn.same sp) hr (.cons (.str _) (.cons (.int _) (.cons (dp_newL kn hp (.cons d1 .nil)) .nil)))
/-- what the law's tree keeps -/
structure Rt (t : Kh.T) : Prop where
  ok : Okt t
  fl : flg false t = t
  dp : dep t ≤ 4
  lv : (Kh.lv t).length ≤ 9
  mm : (mem t).length ≤ 6
theorem lv_one (t : Kh.T) : lv (.gate false 1 [t]) = lv t := by rw [lv_gate]; simp
theorem mem_one (t : Kh.T) : mem (.gate false 1 [t]) = mem t := by unfold mem; rw [lv_one]
theorem okt_one {t : Kh.T} {d : Nat} (hd : d ≤ 4) (wf : Wf t) (dp : dep t ≤ d) (l : (lv t).length ≤ 9) (m : (mem t).length ≤ 6) : Okt (.gate false 1 [t]) :=
  ⟨(wf_gate _ _ _).mpr ⟨Nat.le_refl _, Nat.le_refl _, fun r hr => by rw [List.mem_singleton.mp hr]; exact wf⟩, by rw [lv_one]; omega, (dep_gate (d := 4) _ _ _).mpr fun r hr => by rw [List.mem_singleton.mp hr]; omega, .inr (by rw [mem_one]; omega)⟩
theorem Rt.shp {t : Kh.T} (h : ShpOf 6 t) : Rt t := ⟨⟨h.wf, by have := h.len; omega, by have := h.dp; omega, .inr (by have := h.mem; omega)⟩, h.fl, by have := h.dp; omega, h.len, h.mem⟩
theorem Rt.one {t : Kh.T} (h : ShpOf 6 t) : Rt (.gate false 1 [t]) := ⟨okt_one (d := 3) (by decide) h.wf h.dp h.len h.mem, by
    rw [flg_gate]; congr 1; show [flg false t] = [t]; rw [h.fl], (dep_gate (d := 3) _ _ _).mpr fun r hr => by rw [List.mem_singleton.mp hr]; exact h.dp, by rw [lv_one]; exact h.len, by rw [mem_one]; exact h.mem⟩
/-- Tree(k=v), v of t -/
theorem mk_treeK {K : PySem.W.Frag} {C : Addr} {S : Addr → Prop} {σ : L2.St} {H : Hp} {ta : TE} {Q : VK} (t : Kh.T) (ok : Okt t) (kn : Kn S H)
    (hev : ∀ Q : VK, (∀ u H1, Same H H1 → Dp K (off S H1) u (tD t) → Q u H1) → ta σ H Q)
    (q : ∀ x H', Same H H' → TreeAt K C (off S H') t x → Q (.ref x) H') : tMakeK C 0 1 (spInit K C) (fun vs zs => vs ++ zs) E0 tNil (tCons ta tNil) σ H Q := by
  refine a_nil (a_cons (hev _ fun u H1 s1 du => a_nil ⟨rfl, rfl, fun x dx hx hdx ne => ?_⟩))
  have kn1 := kn.same s1
  have sm := same_ins (o := HO.own x) (o' := HO.ins C dx []) hx hdx
  have hup : (upd (upd H1 dx (.own x)) x (.ins C dx [])) x = some (.ins C dx []) := upd_same
  refine ⟨plus S x, x, dx, u, t, rfl, (kn1.same sm).plus (some_ne hup), .inr rfl, hup, dp_same ?_ _ _ du, ok, fun H' v1 v2 v3 sb hx' d1 d2 d3 => ⟨rfl, q x H' ?_ ⟨dx, v1, v2, v3, ?_, dp_same off_fin _ _ d1, dp_same off_fin _ _ d2, dp_same off_fin _ _ d3⟩⟩⟩
  · exact off_plus hx sm
  · intro b o h
    exact sb b o (ne_of_none (s1 b o h) hx) (sm b o (s1 b o h))
  · rw [off_out (kn1.new hx)]; exact hx'
open Classical in
theorem one_ne (t : Kh.T) : sameT (flg true (.gate false 1 [t])) (flg true t) = false := decide_eq_false fun h => by
  have h1 : dep (flg true (.gate false 1 [t])) ≤ dep t := by rw [h]; exact (dep_flg true t _).mpr (Nat.le_refl _)
  have h2 := (dep_flg true _ _).mp h1
  revert h2
  cases e : dep t with
  | zero => exact fun h2 => dep_gate0 _ _ _ h2
  | succ d => exact fun h2 => by have := (dep_gate _ _ _).mp h2 t (List.mem_singleton.mpr rfl); omega
theorem ty_dat {S : Addr → Prop} {H : Hp} {v : V} {d : PyData} {K : PySem.W.Frag} {C : Addr} (D : TxD K C) (h : Dp K (off S H) v d) : tyOk K H C v := .inr ⟨_, tyx_d (dp_same off_sub _ _ h), D.nf _ (ty_in h)⟩
/-- all is right -/
def spRight : Sp := fun vs H Q _ => ∃ p, vs = [.ref p] ∧ PotAt H p ∧ ∀ H', SameBut p H H' → Q (.bl true) H'
theorem ok__law_right (T : Txt K mg a fd C tk) (U : TxC K mg a C) (D : TxD K C) (mc : Value) (ps : Addr) (hsm : SMet K C mc "of" ps (a 14)) (kw_stands : KBn K (fd 18) ["self", "houses"] 1 ["houses"] (fun us ws => us ++ ws) (fun vs zs => vs ++ zs))
    (kw_init : KBn K (fd 13) ["self", "shape"] 1 ["shape"] (fun us ws => us ++ ws) (fun vs zs => vs ++ zs)) (kw_is_tree : KBn K (fd 5) ["value"] 0 ["value"] (fun us ws => us ++ ws) (fun vs zs => vs ++ zs)) : FnG P w K mg base 14 (a 47) (fd 47) ["_law_pot_here"] spRight := by
  have G__law_shape := ok__law_shape (P := P) (w := w) (base := base) T
  have G__law_draw := ok__law_draw (P := P) (w := w) (base := base) T
  have G__law_tupled := ok__law_tupled (P := P) (w := w) (base := base) T 6
  have G__law_listed := ok__law_listedN (P := P) (w := w) (base := base) T 6
  have G__law_houses := ok__law_houses (P := P) (w := w) (base := base) T 6
  have G__law_spoil := ok__law_spoil (P := P) (w := w) (base := base) T
  have G_is_tree : FnOk P w K mg base CX0 5 (a 5) (fd 5) ["value"] (spIsTree K) := ok_is_tree T
  have G_Tree_init := ok_Tree_init (P := P) (w := w) (base := base) T U
  have G_Tree_shape := ok_Tree_shapeN (P := P) (w := w) (base := base) T U
  have G_Tree_members := ok_Tree_membersN (P := P) (w := w) (base := base) T U
  have G_Tree_eq := ok_Tree_eq (P := P) (w := w) (base := base) T U D
  have G__law_told_right := ok__law_told_right (P := P) (w := w) (base := base) T U kw_stands
  have G__law_turned_right := ok__law_turned_right (P := P) (w := w) (base := base) T U D
  have G__law_joined_right := ok__law_joined_right (P := P) (w := w) (base := base) T U D mc ps hsm
  obtain ⟨pS, hpS⟩ := U.p_shape
  refine fun_okG T.F__law_right sc__law_right (fun vs H Q E h => by obtain ⟨_, rfl, _⟩ := h; rfl) (fun cdv A outer s H vs Q E hg hr h => ?_)
  obtain ⟨p, rfl, hp, q⟩ := h
  refine ⟨_, (pss_cons (ps_par (i := 1) (j := 2) (by rfl) sc__law_right.nd rfl rfl (by decide) rfl rfl (pa_cons (pe_call G__law_shape (hr.mono (by omega)) (by rfl) T.m__law_shape T.F__law_shape.kp T.b__law_shape .nil pass0 (pa_cons (pv 0) (pa_cons pe_int pa_nil))) (pa_cons (pe_call G__law_draw (hr.mono (by omega)) (by rfl) T.m__law_draw T.F__law_draw.kp T.b__law_draw .nil pass0 (pa_cons (pv 0) (pa_cons pe_int pa_nil))) pa_nil)) (by rfl))
      (pss_cons (ps_set (i := 1) sc__law_right.nd rfl (Or.inl rfl) (pe_ifExp (pt_cmpR op_eq (pv 2) pe_int (nomark _)) (pe_tup (pa_cons pe_str (pa_cons pe_int (pa_cons (pe_lst (pa_cons (pv 1) pa_nil)) pa_nil)))) (pv 1)))
      (pss_cons (ps_set (i := 3) sc__law_right.nd rfl (Or.inl rfl) (pe_ifExp (pt_cmpR op_eq (pv 2) pe_int (nomark _)) (pe_call G__law_tupled (hr.mono (by omega)) (by rfl) T.m__law_tupled T.F__law_tupled.kp T.b__law_tupled .nil pass0 (pa_cons (pv 1) pa_nil)) (pe_call G__law_listed (hr.mono (by omega)) (by rfl) T.m__law_listed T.F__law_listed.kp T.b__law_listed .nil pass0 (pa_cons (pv 1) pa_nil))))
      (pss_cons (ps_par (i := 4) (j := 5) (by rfl) sc__law_right.nd rfl rfl (by decide) rfl rfl (pa_cons (pe_make U.M_Tree G_Tree_init (hr.mono (by omega)) (by rfl) U.m_Tree T.b_Tree_init .nil pass0 (pa_cons (pv 3) pa_nil)) (pa_cons (pe_call G__law_houses (hr.mono (by omega)) (by rfl) T.m__law_houses T.F__law_houses.kp T.b__law_houses .nil pass0 (pa_cons (pv 1) pa_nil)) pa_nil)) (by rfl))
      (pss_cons (ps_if (PW.pt (pw_or (pt_not (pt_val (pe_call G_is_tree (hr.mono (by omega)) (by rfl) T.m_is_tree T.F_is_tree.kp T.b_is_tree .nil pass0 (pa_cons (pv 3) pa_nil)))) (pw_or (pt_not (pt_val (pe_kw0 (ks := ["value"]) G_is_tree (hr.mono (by omega)) (by rfl) T.m_is_tree T.F_is_tree.kp kw_is_tree (pk_cons (pv 1) pk_nil)))) (pw_or1 (pt_not (pt_val (pe_callB (k_all (K := K) rfl) (by rfl) T.z_all (by decide +kernel) (pa_cons (pe_lc (own := [("_law_name", 7)]) (g := gName 7) (tt := tYes) rfl sc__law_right.nd (k_pi (K := K) (pv 5)) (blkOk_by (own := [("_law_name", 7)]) (N := _law_right_N) (sc := defScope _law_right_s) (by decide +kernel)) (fun _ _ _ _ _ => (pg_name (i := 7) sc__law_right.nd rfl (Or.inl rfl))) (fun _ _ _ _ _ => pts_nil) (fun _ _ _ _ _ => (pe_call G_is_tree (hr.mono (by omega)) (by rfl) T.m_is_tree T.F_is_tree.kp T.b_is_tree .nil pass0 (pa_cons (pv 7) pa_nil)))) pa_nil))))))))
        (pss_one (ps_ret pe_bl)) pss_nil)
      (pss_cons (ps_if (pt_cmpR op_ne (pv 2) pe_int (nomark _))
        (pss_one (ps_expr (pe_call G__law_spoil (hr.mono (by omega)) (by rfl) T.m__law_spoil T.F__law_spoil.kp T.b__law_spoil .nil pass0 (pa_cons (pv 3) pa_nil)))) pss_nil)
      (pss_cons (ps_for PassesOwn.never rfl (pi_range1 (by rfl) T.z_range (pa_cons pe_int pa_nil)) (pg_name (i := 6) sc__law_right.nd rfl (Or.inl rfl))
        (pss_cons (ps_if (pt_not (pt_val (pe_callG (runsG G__law_told_right hg T.b__law_told_right) (hr.mono (by omega)) (by rfl) T.m__law_told_right T.F__law_told_right.kp (pa_cons (pv 4) (pa_cons (pv 1) pa_nil)))))
          (pss_one (ps_ret pe_bl)) pss_nil)
        (pss_cons (ps_expr (pe_bm0 PySem.F.plainAttrs_list PySem.F.slot_list_clear PySem.F.type_list_clear mt_clear (pe_meth0 (pv 4) U.cls U.me_members G_Tree_members (hr.mono (by omega)) T.b_Tree_members .nil pass0)))
        (pss_one (ps_expr (pe_call G__law_spoil (hr.mono (by omega)) (by rfl) T.m__law_spoil T.F__law_spoil.kp T.b__law_spoil .nil pass0 (pa_cons (pe_prop (pv 4) U.cls hpS G_Tree_shape (hr.mono (by omega)) T.b_Tree_shape .nil pass0 rfl) pa_nil)))))))
      (pss_cons (ps_if (PW.pt (pw_or (pt_cmpR (op_eqI (runsOk G_Tree_eq T.b_Tree_eq) (hr.mono (by omega)) U.me_eq) (pv 4) pe_non (nomark _)) (pw_or (pt_cmpR (op_eqI (runsOk G_Tree_eq T.b_Tree_eq) (hr.mono (by omega)) U.me_eq) (pv 4) (pv 1) (nomark _)) (pw_or (pt_cmpR (op_neI (runsOk G_Tree_eq T.b_Tree_eq) (hr.mono (by omega)) U.me_eq D.ne D.ob) (pv 4) (pe_makeK0 (ks := ["shape"]) U.M_Tree G_Tree_init (hr.mono (by omega)) (by rfl) U.m_Tree kw_init pass0 (pk_cons (pv 1) pk_nil)) (nomark _)) (pw_or1 (pt_cmpR (op_eqI (runsOk G_Tree_eq T.b_Tree_eq) (hr.mono (by omega)) U.me_eq) (pe_make U.M_Tree G_Tree_init (hr.mono (by omega)) (by rfl) U.m_Tree T.b_Tree_init .nil pass0 (pa_cons (pe_tup (pa_cons pe_str (pa_cons pe_int (pa_cons (pe_lst (pa_cons (pv 1) pa_nil)) pa_nil)))) pa_nil)) (pv 4) (nomark _)))))))
        (pss_one (ps_ret pe_bl)) pss_nil)
      (pss_cons (ps_if (pt_not (pt_val (pe_call G__law_turned_right (hr.mono (by omega)) (by rfl) T.m__law_turned_right T.F__law_turned_right.kp T.b__law_turned_right .nil pass0 (pa_cons (pv 4) (pa_cons (pv 1) (pa_cons (pv 5) pa_nil))))))
        (pss_one (ps_ret pe_bl)) pss_nil)
      (pss_one (ps_ret (pe_and (pe_call G__law_joined_right (hr.mono (by omega)) (by rfl) T.m__law_joined_right T.F__law_joined_right.kp T.b__law_joined_right .nil pass0 (pa_cons (pv 0) (pa_cons (pv 4) (pa_cons (pv 1) pa_nil)))) (pe_one (pe_callG (runsG G__law_told_right hg T.b__law_told_right) (hr.mono (by omega)) (by rfl) T.m__law_told_right T.F__law_told_right.kp (pa_cons (pv 4) (pa_cons (pv 1) pa_nil)))))))))))))))), ?_⟩
  have kn0 : Kn (fun a => a = p) H := fun b z => by rw [z]; exact hp.some
  obtain ⟨S, hS⟩ : ∃ S : Addr → Prop, S = fun a => a = p := ⟨_, rfl⟩
  rw [← hS] at kn0
  have hSp : S p := by rw [hS]
  have knB : ∀ {H'}, SameBut p H H' → PotAt H' p → Kn S H' := fun {H'} sb pt => kn_bt kn0 sb pt.some
  refine s_seq (a_cons (t_call2 (t_var rfl (t_c ⟨S, p, 6, rfl, kn0, hSp, hp, by decide, by decide, fun u0 H1 t0 sb1 pt1 sh du0 => a_cons (t_call2 (t_var rfl (t_c ⟨p, 3, rfl, pt1, by decide, by decide, fun d H2 hd sb2 pt2 => a_nil ⟨_, _, rfl, nx_of ?_⟩⟩)))⟩))))
  have sb02 := sb_trans sb1 sb2
  have kn2 := knB sb02 pt2
  have du2 := dp_same (off_bt hSp sb2) _ _ du0
  refine s_seq (s_setC (fun vu H' => ∃ t, Same H2 H' ∧ Dp K (off S H') vu (tD t) ∧ Rt t) ?_ fun N q' => ?_)
  rotate_left
  · refine t_if (b_test (t_op (t_var rfl (t_c ⟨rfl, _, rfl, ?_⟩))))
    refine if_b (fun c => ?_) (fun c => ?_)
    · exact due1 kn2 du2 (fun Q2 q2 => t_var rfl q2) fun v H' s' dv => q' v H' ⟨_, s', dv, .one sh⟩
    · exact t_var rfl (q' _ _ ⟨t0, Same.refl _, du2, .shp sh⟩)
  rintro vu H3 ⟨t, s3, du3, rt⟩
  refine nx_of ?_
  have sb03 := sb_trans sb02 (sbut s3)
  have pt3 := pt2.same s3
  have kn3 := knB sb03 pt3
  refine s_seq (s_setC (fun vh H' => Same H3 H' ∧ ((d = 1 ∧ Dp K (off S H') vh (tD (flg true t))) ∨ (d ≠ 1 ∧ Np (off (old H3) H') vh (tD (flg false t))))) ?_ fun N q' => ?_)
  rotate_left
  · refine t_if (b_test (t_op (t_var rfl (t_c ⟨rfl, _, rfl, ?_⟩))))
    refine if_b (fun c => ?_) (fun c => ?_)
    · exact t_call1 (t_var rfl ⟨S, t, kn3, .cons du3 .nil, preOf rt.ok, fun v H' s' h => q' _ _ ⟨s', .inl ⟨by simp at c; omega, h⟩⟩⟩)
    · exact t_call1 (t_var rfl ⟨S, old H3, t, fun b z => kn3 b z, kn_old, .cons du3 .nil, preOf rt.ok, fun v H' s' h => q' _ _ ⟨s', .inr ⟨by simp at c; omega, h⟩⟩⟩)
  rintro vh H4 ⟨s4, hh⟩
  refine nx_of ?_
  have kn4 := kn3.same s4
  obtain ⟨c, hd4⟩ : ∃ c, Dp K (off S H4) vh (tD (flg c t)) := by
    rcases hh with ⟨_, h⟩ | ⟨_, h⟩
    · exact ⟨true, h⟩
    · exact ⟨false, dp_same (off_less (old_of kn3)) _ _ h.dp⟩
  have okc : Okt (flg c t) := okt_flg rt.ok
  obtain ⟨S1, hS1⟩ : ∃ S1 : Addr → Prop, S1 = fun b => S b ∨ (H3 b = none ∧ H4 b ≠ none) := ⟨_, rfl⟩
  have knS : Kn S1 H4 := fun b z => by
    rw [hS1] at z
    rcases z with z | z
    · exact kn4 b z
    · exact z.2
  have off31 : ∀ {H'}, Same H4 H' → Same (off S H3) (off S1 H') := fun {H'} s b o h => by
    obtain ⟨n, h⟩ := off_some h
    rw [off_out]
    · exact s _ _ (s4 _ _ h)
    · rw [hS1]
      rintro (z | z)
      · exact n z
      · rw [h] at z; cases z.1
  have prT : preL 6 t := ⟨preOf rt.ok, by have := rt.lv; omega⟩
  refine s_seq (a_cons (mk_tree (S := S) (flg c t) okc kn4 (fun Q' q' => t_var rfl (q' _ _ (Same.refl _) hd4)) fun x H5 s5 hx5 => a_cons (t_call1 (t_var rfl ⟨S1, t, knS.same s5, .cons (dp_same (off31 s5) _ _ du3) .nil, prT, fun vt H6 s6 dt6 => a_nil ⟨_, _, rfl, nx_of ?_⟩⟩))))
  have s46 := s5.trans s6
  have kn6 := knS.same s46
  have hx6 : TreeAt K C (off S H6) t x := (hx5.eqv (flg_flg true c t)).same (off_same s6)
  refine s_seq (s_if (b_or (b_not (b_val (t_call1 (t_var rfl (spP_bl off_sub (flg c t) (.cons (dp_same (off_same s46) _ _ hd4) .nil) ⟨okc.1, okc.siz⟩ rfl fun H7 s7 => ⟨_, rfl, ifF rfl ?_⟩)))))))
  have s47 := s46.trans s7
  have kn7 := kn6.same s7
  have du7 : Dp K (off S1 H7) vu (tD t) := dp_same (off31 s47) _ _ du3
  refine b_or (b_not (b_val (a_cons (t_var rfl (a_nil ⟨rfl, spP_bl off_sub t (.cons du7 .nil) ⟨rt.ok.1, rt.ok.siz⟩ rfl fun H8 s8 => ⟨_, rfl, ifF rfl ?_⟩⟩)))))
  have s48 := s47.trans s8
  have kn8 := kn7.same s8
  have dt8 : Dp K (off S1 H8) vt (nL (mem t)) := dp_same (off_same (s7.trans s8)) _ _ dt6
  refine b_not (b_val (t_cb1 (lc_seq (b := false) (ds := (mem t).map nD) (fun _ => .bool true) kn8 (fun Q q => t_var rfl (q _ _ (Same.refl _) dt8)) (by rw [List.length_map]; have := mem_le t; omega) (fun _ => rfl) (fun j xx dd H9 S' dj s9 kn9 dx hSS hoff Q q => ?_) fun L H9 ys hD s9 hd9 h9 => ?_)))
  · have dm := List.mem_of_getElem? dj
    obtain ⟨n, hn, rfl⟩ := List.mem_map.mp dm
    exact t_call1 (t_var rfl (spP_bl off_sub (Kh.T.leaf n) (.cons (by rw [tD_leaf]; exact dx) .nil) ⟨by rw [Wf]; unfold mem at hn; exact List.mem_range.mp (List.mem_filter.mp hn).1, by simp [siz]⟩ rfl fun H10 s10 => q _ _ s10 (dp_bl rfl)))
  refine all_d (bs := (List.range ((mem t).map nD).length).map fun _ => true) off_sub (by rw [List.map_map]; exact h9) ⟨_, rfl, ifF (by rw [all_map fun _ _ => rfl]; rfl) (s_next ?_)⟩
  have s49 := s48.trans s9
  have s39 := s4.trans s49
  have dt9 : Dp K (off S1 H9) vt (nL (mem t)) := dp_same (off_same s9) _ _ dt8
  have hx9 : TreeAt K C (off S H9) t x := hx6.same (off_same ((s7.trans s8).trans s9))
  have sb09 := sb_trans sb03 (sbut s39)
  have pt9 := pt3.same s39
  have at9 : ∀ {b o}, H3 b = some o → mid H3 H4 H9 b = some o := fun {b o} h => by
    rw [mid_out (fun z => by rw [h] at z; cases z.1)]; exact s39 _ _ h
  refine s_seq (s_ifDrop (fun H' => SameBut p H H' ∧ PotAt H' p ∧ TreeAt K C (off S H') t x ∧ Dp K (off S H') vu (tD t) ∧ Dp K (off S H') vt (nL (mem t))) ?_ fun N q' => ?_)
  rotate_left
  · refine b_test (t_op (t_var rfl (t_c ⟨rfl, _, rfl, ?_⟩)))
    refine if_b (fun c => ?_) (fun c => ?_)
    · rcases hh with ⟨e, _⟩ | ⟨_, h⟩
      · subst e; cases c
      refine t_call1 (t_var rfl ⟨mid H3 H4 H9, t, vh, rfl, np_mid s49 h, mid_in, rt.ok.sm, fun H' sm ot => q' H' ⟨?_, ?_, hx9.oth (oth_off ot), ?_, ?_⟩⟩)
      · exact fun b o n h => sm b o (at9 (sb03 b o n h))
      · obtain ⟨x1, y1, e1, hy1⟩ := pt3
        exact ⟨x1, y1, sm _ _ (at9 e1), hy1⟩
      · refine dp_same (fun b o e => ?_) _ _ du3
        obtain ⟨n, e⟩ := off_some e
        rw [off_out n]; exact sm _ _ (at9 e)
      · refine dp_same (fun b o e => ?_) _ _ dt9
        obtain ⟨n, e⟩ := off_some e
        rw [hS1] at n
        rw [off_out (fun z => n (.inl z))]
        exact sm _ _ (by rw [mid_out (fun z => n (.inr z))]; exact e)
    · exact q' _ ⟨sb09, pt9, hx9, dp_same (off_same s39) _ _ du3, dp_same (off_less fun b z => by rw [hS1]; exact .inl z) _ _ dt9⟩
  rintro H10 ⟨sb10, pt10, hx10, du10, dt10⟩
  refine nx_of ?_
  have kn10 := knB sb10 pt10
  refine s_seq ?_
  show iRng1 (tCons (tC (.int 2)) tNil) _ _ _
  refine r_rng (a_cons (t_c (a_nil ⟨2, rfl, by decide, by decide, ?_⟩)))
  refine for_it walk_range (fun i σ' H' => ∃ x6 : Option V, σ' = [some (.ref p), some vu, some (.int (d : Nat)), some vh, some (.ref x), some vt, x6, none] ∧ Same H10 H') ⟨_, rfl, Same.refl _⟩ (fun _ _ _ _ _ => trivial) ?_ ?_
  · rintro i x0 σ' Ha Hb hi ⟨x6, rfl, sa⟩ ⟨rfl, rfl⟩
    refine g_name ?_
    refine s_seq (s_if (b_not (b_val (t_call2 (t_var rfl (t_var rfl ⟨S, t, x, vu, rfl, kn10.same sa, hx10.same (off_same sa), dp_same (off_same sa) _ _ du10, rt.ok, by have := rt.mm; omega, rt.fl, fun Hc sc => ⟨_, rfl, ifF rfl (s_next ?_)⟩⟩))))))
    have sac := sa.trans sc
    have hxc : TreeAt K C (off S Hc) t x := hx10.same (off_same sac)
    obtain ⟨dx, y1, y2, y3, hx0, _⟩ := id hxc
    refine s_seq (t_bm0 (t_meth0 (t_var rfl ⟨x, dx, _, rfl, (off_some hx0).2, rfl, S, t, x, rfl, kn10.same sac, hxc, fun l Hd hl sd hl2 => ⟨.inl ⟨rfl, _, sqL hl2⟩, l, _, rfl, rfl, hl2, nx_of ?_⟩⟩)))
    have se : Same Hc (upd Hd l (.lst [])) := fun b o h => by rw [upd_ne (ne_of_none h hl)]; exact sd b o h
    generalize upd Hd l (.lst []) = He at se
    have sae := sac.trans se
    refine (t_call1 (t_prop (t_var rfl ⟨x, dx, _, rfl, se _ _ (off_some hx0).2, S, t, x, rfl, kn10.same sae, hxc.same (off_same se), rt.ok, fun v Hf sf h => ⟨He, t, v, rfl, h, sf, rt.ok.sm, fun Hg sg _ => nx_of ⟨_, rfl, sae.trans sg⟩⟩⟩)))
  rintro σ' H11 ⟨x6, rfl, s11⟩
  have kn11 := kn10.same s11
  have hx11 : TreeAt K C (off S H11) t x := hx10.same (off_same s11)
  have du11 := dp_same (off_same s11) _ _ du10
  refine nx_of ?_
  refine s_seq (s_if (b_or (b_test (t_op (t_var rfl (t_c ⟨isI_at hx11, ty_dat D (S := S) (.non : Dp K (off S H11) .non .none), S, t, x, .non, rfl, kn11, hx11, rt.ok, .inr ⟨_, (.non : Dp K (off S H11) .non .none), fun H12 s12 => ⟨_, rfl, ifF rfl ?_⟩⟩⟩))))))
  refine b_or (b_test (t_op (t_var rfl (t_var rfl ⟨isI_at (hx11.same (off_same s12)), ty_dat D (dp_same (off_same s12) _ _ du11), S, t, x, vu, rfl, kn11.same s12, hx11.same (off_same s12), rt.ok, .inr ⟨_, dp_same (off_same s12) _ _ du11, fun H13 s13 => ⟨_, rfl, ifF rfl ?_⟩⟩⟩))))
  have s113 := s12.trans s13
  refine b_or (b_test (t_op (t_var rfl (mk_treeK (S := S) t rt.ok (kn11.same s113) (fun Q2 q2 => t_var rfl (q2 _ _ (Same.refl _) (dp_same (off_same s113) _ _ du11))) fun z H14 s14 hz => ?_))))
  have s114 := s113.trans s14
  refine ⟨isI_at (hx11.same (off_same s114)), .inl (isI_at hz), S, t, x, .ref z, rfl, kn11.same s114, hx11.same (off_same s114), rt.ok, .inl ⟨t, z, rfl, hz, rt.ok, fun H15 s15 => ⟨_, rfl, ?_⟩⟩⟩
  rw [sameT_refl]
  refine ⟨_, rfl, ifF rfl ?_⟩
  have s115 := s114.trans s15
  have du15 := dp_same (off_same s115) _ _ du11
  have ok1 : Okt (.gate false 1 [t]) := okt_one (d := 4) (by decide) rt.ok.1 rt.dp rt.lv rt.mm
  refine b_test (t_op (mk_tree (S := S) (.gate false 1 [t]) ok1 (kn11.same s115) (fun Q2 q2 => due1 (kn11.same s115) du15 (fun Q3 q3 => t_var rfl q3) q2) fun z2 H16 s16 hz2 => t_var rfl ?_))
  have s116 := s115.trans s16
  refine ⟨isI_at hz2, .inl (isI_at (hx11.same (off_same s116))), S, .gate false 1 [t], z2, .ref x, rfl, kn11.same s116, hz2, ok1, .inl ⟨t, x, rfl, hx11.same (off_same s116), rt.ok, fun H17 s17 => ⟨_, rfl, ?_⟩⟩⟩
  rw [one_ne]
  refine ifF rfl (s_next ?_)
  have s117 := s116.trans s17
  refine s_seq (s_if (b_not (b_val (t_call3 (t_var rfl (t_var rfl (t_var rfl ⟨S, t, x, vu, vt, rfl, kn11.same s117, hx11.same (off_same s117), dp_same (off_same s117) _ _ du11, dp_same (off_same (s11.trans s117)) _ _ dt10, rt.ok, by have := rt.mm; omega, fun H18 s18 => ⟨_, rfl, ifF rfl (s_next ?_)⟩⟩)))))))
  have s118 := s117.trans s18
  have sb18 := sb_trans sb10 (sbut (s11.trans s118))
  have pt18 := pt10.same (s11.trans s118)
  refine s_ret (t_andV (t_call3 (t_var rfl (t_var rfl (t_var rfl ⟨S, p, t, x, vu, rfl, hSp, knB sb18 pt18, pt18, hx11.same (off_same s118), dp_same (off_same s118) _ _ du11, rt.ok, rt.fl, rt.dp, rt.lv, rt.mm, fun H19 sb19 pt19 => bl_ifT (t_call2 (t_var rfl (t_var rfl ?_)))⟩)))))
  have o19 := off_bt hSp sb19
  have sb019 := sb_trans sb18 sb19
  exact ⟨S, t, x, vu, rfl, knB sb019 pt19, (hx11.same (off_same s118)).same o19, dp_same o19 _ _ (dp_same (off_same s118) _ _ du11), rt.ok, by have := rt.mm; omega, rt.fl, fun H20 s20 => q H20 (sb_trans sb019 (sbut s20))⟩
end
end K31

set_option maxRecDepth 100000
set_option maxHeartbeats 4000000
namespace K31
open PySem PySem.Spec PyProof.Rows L2 Kh
theorem dp_script {K : PySem.W.Frag} {H : Hp} {p : Addr} {ns : List Int} (h : SqL K H p (ns.map V.int)) : Dp K H (.ref p) (.list (ns.map PyData.int)) := by
  refine .lst h ?_
  clear h
  induction ns with
  | nil => exact .nil
  | cons n ns ih => exact .cons (.int n) ih
theorem two_of (n : Nat) : ∃ m : Nat, 1 ≤ m ∧ m ≤ 2 ∧ (if (if (n : Int) < 2 then (n : Int) else 2) > 1 then (if (n : Int) < 2 then (n : Int) else 2) else 1) = (m : Int) := by
  by_cases h : (n : Int) < 2
  · rw [if_pos h]
    by_cases h2 : (n : Int) > 1
    · rw [if_pos h2]; exact ⟨n, by omega, by omega, rfl⟩
    · rw [if_neg h2]; exact ⟨1, by decide, by decide, rfl⟩
  · rw [if_neg h, if_pos (by decide)]; exact ⟨2, by decide, by decide, rfl⟩
section
variable {P : Program} {w : World} {K : PySem.W.Frag} {mg : Str → Option Value} {base : Heap} {a : Nat → Addr} {fd : Nat → FuncData} {C : Addr} {tk : Nat → Tok}
/-- the law of a script -/
def spLaw (K : PySem.W.Frag) : Sp := fun vs H Q _ => ∃ (p : Addr) (ns : List Int), vs = [.ref p] ∧ SqL K H p (ns.map V.int) ∧ ns.length ≤ 100000 ∧ ∀ H', Q (.bl true) H'
theorem ok_law (T : Txt K mg a fd C tk) (U : TxC K mg a C) (D : TxD K C) (mc : Value) (ps : Addr) (hsm : SMet K C mc "of" ps (a 14)) (kw_stands : KBn K (fd 18) ["self", "houses"] 1 ["houses"] (fun us ws => us ++ ws) (fun vs zs => vs ++ zs))
    (kw_init : KBn K (fd 13) ["self", "shape"] 1 ["shape"] (fun us ws => us ++ ws) (fun vs zs => vs ++ zs)) (kw_is_tree : KBn K (fd 5) ["value"] 0 ["value"] (fun us ws => us ++ ws) (fun vs zs => vs ++ zs)) : FnG P w K mg base 15 (a 48) (fd 48) ["_law_script"] (spLaw K) := by
  have G__law_pot := ok__law_pot (P := P) (w := w) (base := base) T
  have G__law_right := ok__law_right (P := P) (w := w) (base := base) T U D mc ps hsm kw_stands kw_init kw_is_tree
  refine fun_okG T.F_law sc_law (fun vs H Q E h => by obtain ⟨_, _, rfl, _⟩ := h; rfl) (fun cdv A outer s H vs Q E hg hr h => ?_)
  obtain ⟨p, ns, rfl, hp, hl, q⟩ := h
  refine ⟨_, (pss_one (ps_ret (pe_callB (k_all (K := K) rfl) (by rfl) T.z_all (by decide +kernel) (pa_cons (pe_lc (own := [("_law_k", 1)]) (g := gName 1) (tt := tYes) rfl sc_law.nd (pi_range1 (by rfl) T.z_range (pa_cons (pe_callB (call_max2R rfl) (by rfl) T.z_max (by decide +kernel) (pa_cons pe_int (pa_cons (pe_callB (call_min2R rfl) (by rfl) T.z_min (by decide +kernel) (pa_cons pe_int (pa_cons (pe_callB (k_len (K := K)) (by rfl) T.z_len (by decide +kernel) (pa_cons (pv 0) pa_nil)) pa_nil))) pa_nil))) pa_nil)) (blkOk_by (own := [("_law_k", 1)]) (N := law_N) (sc := defScope law_s) (by decide +kernel)) (fun _ _ _ _ _ => (pg_name (i := 1) sc_law.nd rfl (Or.inl rfl))) (fun _ _ _ _ _ => pts_nil) (fun _ _ _ _ _ => (pe_callG (runsG G__law_right hg T.b__law_right) (hr.mono (by omega)) (by rfl) T.m__law_right T.F__law_right.kp (pa_cons (pe_call G__law_pot (hr.mono (by omega)) (by rfl) T.m__law_pot T.F__law_pot.kp T.b__law_pot .nil pass0 (pa_cons (pv 0) (pa_cons (pv 1) pa_nil))) pa_nil)))) pa_nil)))), ?_⟩
  have hd := dp_script hp
  obtain ⟨m, m1, m2, em⟩ := two_of ns.length
  refine s_ret (t_cb1 (lc_rngB (K := K) (n := m) (fun _ => true) (kn_no (H := H)) (by omega) (fun q' h' => ?_) (fun _ => rfl) (fun j H1 S' hj s1 kn1 hS ho Q' q' => ?_) fun L H1 s1 dL => ?_))
  · refine a_cons (t_cb2 (t_c (t_cb2 (t_c (t_cb1 (t_var rfl (len_d (Same.refl H) hd rfl ⟨_, _, rfl, ⟨_, _, rfl, a_nil ?_⟩⟩)))))))
    rw [List.length_map, em]
    exact h' H (Same.refl _)
  · refine t_call1 (t_call2 (t_var rfl (t_var rfl ⟨.ref p, ns, j, rfl, dp_same s1 _ _ hd, by omega, fun po H2 s2 hn pt => ⟨po, rfl, pt, fun H3 sb => q' H3 fun b o h => sb b o (ne_of_none h hn) (s2 b o h)⟩⟩)))
  · exact all_d (bs := (List.range m).map fun _ => true) off_sub dL (by rw [all_map fun _ _ => rfl]; exact q H1)
end
end K31

set_option maxRecDepth 100000
set_option maxHeartbeats 4000000
namespace K31
open PySem PySem.Spec PyProof.Rows L2 Kh
theorem all_mk {P : Program} {w : World} {K : PySem.W.Frag} {h : Heap} {mg : Str → Option Value} {fa C f0 f1 f2 f3 f4 f5 f6 f7 f8 f9 f10 f11 f12 f13 f14 f15 f16 f17 f18 f19 f20 f21 f22 f23 f24 f25 f26 f27 f28 f29 f30 f31 f32 f33 f34 f35 f36 f37 f38 f39 f40 f41 f42 f43 f44 f45 f46 f47 f48 p14 p15 p16 : Addr} {mc : Value} {tk0 tk1 tk2 tk3 : Tok} {rs14 rs15 rs16 : List Value} (X : K.In h) (G : h.Ns mainGlobals mg) (hfa : mg "law" = some (.ref fa))
    {od0 od1 od2 od3 od4 od5 od6 od7 od8 od9 od10 od11 od12 od13 od14 od15 od16 od17 od18 od19 od20 od21 od22 od23 od24 od25 od26 od27 od28 od29 od30 od31 od32 od33 od34 od35 od36 od37 od38 od39 od40 od41 od42 od43 od44 od45 od46 od47 od48 an0 an1 an2 an3 an4 an5 an6 an7 an8 an9 an10 an11 an12 an13 an14 an15 an16 an17 an18 an19 an20 an21 an22 an23 an24 an25 an26 an27 an28 an29 an30 an31 an32 an33 an34 an35 an36 an37 an38 an39 an40 an41 an42 an43 an44 an45 an46 an47 an48 : Option Addr} {sl0 sl1 sl2 sl3 sl4 sl5 sl6 sl7 sl8 sl9 sl10 sl11 sl12 sl13 sl14 sl15 sl16 sl17 sl18 sl19 sl20 sl21 sl22 sl23 sl24 sl25 sl26 sl27 sl28 sl29 sl30 sl31 sl32 sl33 sl34 sl35 sl36 sl37 sl38 sl39 sl40 sl41 sl42 sl43 sl44 sl45 sl46 sl47 sl48 : Array (Option Value)} {oc0 oc1 oc2 oc3 oc4 oc5 oc6 oc7 oc8 oc9 oc10 oc11 oc12 oc13 oc14 oc15 oc16 oc17 oc18 oc19 oc20 oc21 oc22 oc23 oc24 oc25 oc26 oc27 oc28 oc29 oc30 oc31 oc32 oc33 oc34 oc35 oc36 oc37 oc38 oc39 oc40 oc41 oc42 oc43 oc44 oc45 oc46 oc47 oc48 kV0 kV1 kV2 kV3 kV4 kV5 kV6 kV7 kV8 kV9 kV10 kV11 kV12 kV13 kV14 kV15 kV16 kV17 kV18 kV19 kV20 kV21 kV22 kV23 kV24 kV25 kV26 kV27 kV28 kV29 kV30 kV31 kV32 kV33 kV34 kV35 kV36 kV37 kV38 kV39 kV40 kV41 kV42 kV43 kV44 kV45 kV46 kV47 kV48 dc0 dc1 dc2 dc3 dc4 dc5 dc6 dc7 dc8 dc9 dc10 dc11 dc12 dc13 dc14 dc15 dc16 dc17 dc18 dc19 dc20 dc21 dc22 dc23 dc24 dc25 dc26 dc27 dc28 dc29 dc30 dc31 dc32 dc33 dc34 dc35 dc36 dc37 dc38 dc39 dc40 dc41 dc42 dc43 dc44 dc45 dc46 dc47 dc48 pm0 pm1 pm2 pm3 pm4 pm5 pm6 pm7 pm8 pm9 pm10 pm11 pm12 pm13 pm14 pm15 pm16 pm17 pm18 pm19 pm20 pm21 pm22 pm23 pm24 pm25 pm26 pm27 pm28 pm29 pm30 pm31 pm32 pm33 pm34 pm35 pm36 pm37 pm38 pm39 pm40 pm41 pm42 pm43 pm44 pm45 pm46 pm47 pm48 cd0 cd1 cd2 cd3 cd4 cd5 cd6 cd7 cd8 cd9 cd10 cd11 cd12 cd13 cd14 cd15 cd16 cd17 cd18 cd19 cd20 cd21 cd22 cd23 cd24 cd25 cd26 cd27 cd28 cd29 cd30 cd31 cd32 cd33 cd34 cd35 cd36 cd37 cd38 cd39 cd40 cd41 cd42 cd43 cd44 cd45 cd46 cd47 cd48 ct0 ct1 ct2 ct3 ct4 ct5 ct6 ct7 ct8 ct9 ct10 ct11 ct12 ct13 ct14 ct15 ct16 ct17 ct18 ct19 ct20 ct21 ct22 ct23 ct24 ct25 ct26 ct27 ct28 ct29 ct30 ct31 ct32 ct33 ct34 ct35 ct36 ct37 ct38 ct39 ct40 ct41 ct42 ct43 ct44 ct45 ct46 ct47 ct48 : Value}
    (a0 : PySem.W.nsIn K mainGlobals "is_integer" = some (some (.ref f0)))
    (l0 : K.lookup f0 = some ⟨oc0, od0, .func (PySem.W.fnOf "is_integer" "is_integer" (defArgs is_integer_s) (defBody is_integer_s) (defScope is_integer_s) .none kV0 dc0 pm0 an0 cd0 ct0), sl0⟩)
    (c0 : PySem.W.codeIn K cd0 "is_integer" = true)
    (k0 : PySem.W.keepIn K (.ref f0) = true)
    (a1 : PySem.W.nsIn K mainGlobals "is_count" = some (some (.ref f1)))
    (l1 : K.lookup f1 = some ⟨oc1, od1, .func (PySem.W.fnOf "is_count" "is_count" (defArgs is_count_s) (defBody is_count_s) (defScope is_count_s) .none kV1 dc1 pm1 an1 cd1 ct1), sl1⟩)
    (c1 : PySem.W.codeIn K cd1 "is_count" = true)
    (k1 : PySem.W.keepIn K (.ref f1) = true)
    (a2 : PySem.W.nsIn K mainGlobals "is_list" = some (some (.ref f2)))
    (l2 : K.lookup f2 = some ⟨oc2, od2, .func (PySem.W.fnOf "is_list" "is_list" (defArgs is_list_s) (defBody is_list_s) (defScope is_list_s) .none kV2 dc2 pm2 an2 cd2 ct2), sl2⟩)
    (c2 : PySem.W.codeIn K cd2 "is_list" = true)
    (k2 : PySem.W.keepIn K (.ref f2) = true)
    (a3 : PySem.W.nsIn K mainGlobals "is_number_below" = some (some (.ref f3)))
    (l3 : K.lookup f3 = some ⟨oc3, od3, .func (PySem.W.fnOf "is_number_below" "is_number_below" (defArgs is_number_below_s) (defBody is_number_below_s) (defScope is_number_below_s) .none kV3 dc3 pm3 an3 cd3 ct3), sl3⟩)
    (c3 : PySem.W.codeIn K cd3 "is_number_below" = true)
    (k3 : PySem.W.keepIn K (.ref f3) = true)
    (a4 : PySem.W.nsIn K mainGlobals "is_gate" = some (some (.ref f4)))
    (l4 : K.lookup f4 = some ⟨oc4, od4, .func (PySem.W.fnOf "is_gate" "is_gate" (defArgs is_gate_s) (defBody is_gate_s) (defScope is_gate_s) .none kV4 dc4 pm4 an4 cd4 ct4), sl4⟩)
    (c4 : PySem.W.codeIn K cd4 "is_gate" = true)
    (k4 : PySem.W.keepIn K (.ref f4) = true)
    (a5 : PySem.W.nsIn K mainGlobals "is_tree" = some (some (.ref f5)))
    (l5 : K.lookup f5 = some ⟨oc5, od5, .func (PySem.W.fnOf "is_tree" "is_tree" (defArgs is_tree_s) (defBody is_tree_s) (defScope is_tree_s) .none kV5 dc5 pm5 an5 cd5 ct5), sl5⟩)
    (c5 : PySem.W.codeIn K cd5 "is_tree" = true)
    (k5 : PySem.W.keepIn K (.ref f5) = true)
    (a6 : PySem.W.nsIn K mainGlobals "firm" = some (some (.ref f6)))
    (l6 : K.lookup f6 = some ⟨oc6, od6, .func (PySem.W.fnOf "firm" "firm" (defArgs firm_s) (defBody firm_s) (defScope firm_s) .none kV6 dc6 pm6 an6 cd6 ct6), sl6⟩)
    (c6 : PySem.W.codeIn K cd6 "firm" = true)
    (k6 : PySem.W.keepIn K (.ref f6) = true)
    (a7 : PySem.W.nsIn K mainGlobals "listed" = some (some (.ref f7)))
    (l7 : K.lookup f7 = some ⟨oc7, od7, .func (PySem.W.fnOf "listed" "listed" (defArgs listed_s) (defBody listed_s) (defScope listed_s) .none kV7 dc7 pm7 an7 cd7 ct7), sl7⟩)
    (c7 : PySem.W.codeIn K cd7 "listed" = true)
    (k7 : PySem.W.keepIn K (.ref f7) = true)
    (a8 : PySem.W.nsIn K mainGlobals "leaves" = some (some (.ref f8)))
    (l8 : K.lookup f8 = some ⟨oc8, od8, .func (PySem.W.fnOf "leaves" "leaves" (defArgs leaves_s) (defBody leaves_s) (defScope leaves_s) .none kV8 dc8 pm8 an8 cd8 ct8), sl8⟩)
    (c8 : PySem.W.codeIn K cd8 "leaves" = true)
    (k8 : PySem.W.keepIn K (.ref f8) = true)
    (a9 : PySem.W.nsIn K mainGlobals "depth" = some (some (.ref f9)))
    (l9 : K.lookup f9 = some ⟨oc9, od9, .func (PySem.W.fnOf "depth" "depth" (defArgs depth_s) (defBody depth_s) (defScope depth_s) .none kV9 dc9 pm9 an9 cd9 ct9), sl9⟩)
    (c9 : PySem.W.codeIn K cd9 "depth" = true)
    (k9 : PySem.W.keepIn K (.ref f9) = true)
    (a10 : PySem.W.nsIn K mainGlobals "contrary" = some (some (.ref f10)))
    (l10 : K.lookup f10 = some ⟨oc10, od10, .func (PySem.W.fnOf "contrary" "contrary" (defArgs contrary_s) (defBody contrary_s) (defScope contrary_s) .none kV10 dc10 pm10 an10 cd10 ct10), sl10⟩)
    (c10 : PySem.W.codeIn K cd10 "contrary" = true)
    (k10 : PySem.W.keepIn K (.ref f10) = true)
    (a11 : PySem.W.nsIn K mainGlobals "stands_in" = some (some (.ref f11)))
    (l11 : K.lookup f11 = some ⟨oc11, od11, .func (PySem.W.fnOf "stands_in" "stands_in" (defArgs stands_in_s) (defBody stands_in_s) (defScope stands_in_s) .none kV11 dc11 pm11 an11 cd11 ct11), sl11⟩)
    (c11 : PySem.W.codeIn K cd11 "stands_in" = true)
    (k11 : PySem.W.keepIn K (.ref f11) = true)
    (a12 : PySem.W.nsIn K mainGlobals "are_houses" = some (some (.ref f12)))
    (l12 : K.lookup f12 = some ⟨oc12, od12, .func (PySem.W.fnOf "are_houses" "are_houses" (defArgs are_houses_s) (defBody are_houses_s) (defScope are_houses_s) .none kV12 dc12 pm12 an12 cd12 ct12), sl12⟩)
    (c12 : PySem.W.codeIn K cd12 "are_houses" = true)
    (k12 : PySem.W.keepIn K (.ref f12) = true)
    (a13 : PySem.W.findIn K (.ref C) "__init__" = some (some (.ref f13)))
    (i13 : PySem.W.isFn K (.ref f13) = true)
    (l13 : K.lookup f13 = some ⟨oc13, od13, .func (PySem.W.fnOf "__init__" "Tree.__init__" (defArgs Tree_init_s) (defBody Tree_init_s) (defScope Tree_init_s) .none kV13 dc13 pm13 an13 cd13 ct13), sl13⟩)
    (c13 : PySem.W.codeIn K cd13 "Tree.__init__" = true)
    (k13 : PySem.W.keepIn K (.ref f13) = true)
    (a14 : PySem.W.findCls K (.ref C) mc "of" = some (.get (.builtin "staticmethod.__get__") (.ref p14) .none (.ref C)))
    (g14 : PySem.W.readsIn K C mc = true)
    (t14 : PySem.W.specialIn K (.ref C) "__getattribute__" = some (some (.builtin "type.__getattribute__")))
    (r14 : PySem.W.recIn K p14 "staticmethod" = some (.ref f14 :: rs14))
    (l14 : K.lookup f14 = some ⟨oc14, od14, .func (PySem.W.fnOf "of" "Tree.of" (defArgs Tree_of_s) (defBody Tree_of_s) (defScope Tree_of_s) .none kV14 dc14 pm14 an14 cd14 ct14), sl14⟩)
    (c14 : PySem.W.codeIn K cd14 "Tree.of" = true)
    (k14 : PySem.W.keepIn K (.ref f14) = true)
    (a15 : PySem.W.findIn K (.ref C) "shape" = some (some (.ref p15)))
    (g15 : PySem.W.specialIn K (.ref p15) "__get__" = some (some (.builtin "property.__get__")))
    (t15 : PySem.W.takesIn K (.ref p15) = some true)
    (r15 : PySem.W.recIn K p15 "property" = some (.ref f15 :: rs15))
    (l15 : K.lookup f15 = some ⟨oc15, od15, .func (PySem.W.fnOf "shape" "Tree.shape" (defArgs Tree_shape_s) (defBody Tree_shape_s) (defScope Tree_shape_s) .none kV15 dc15 pm15 an15 cd15 ct15), sl15⟩)
    (c15 : PySem.W.codeIn K cd15 "Tree.shape" = true)
    (k15 : PySem.W.keepIn K (.ref f15) = true)
    (a16 : PySem.W.findIn K (.ref C) "is_plain" = some (some (.ref p16)))
    (g16 : PySem.W.specialIn K (.ref p16) "__get__" = some (some (.builtin "property.__get__")))
    (t16 : PySem.W.takesIn K (.ref p16) = some true)
    (r16 : PySem.W.recIn K p16 "property" = some (.ref f16 :: rs16))
    (l16 : K.lookup f16 = some ⟨oc16, od16, .func (PySem.W.fnOf "is_plain" "Tree.is_plain" (defArgs Tree_is_plain_s) (defBody Tree_is_plain_s) (defScope Tree_is_plain_s) .none kV16 dc16 pm16 an16 cd16 ct16), sl16⟩)
    (c16 : PySem.W.codeIn K cd16 "Tree.is_plain" = true)
    (k16 : PySem.W.keepIn K (.ref f16) = true)
    (a17 : PySem.W.findIn K (.ref C) "members" = some (some (.ref f17)))
    (i17 : PySem.W.isFn K (.ref f17) = true)
    (l17 : K.lookup f17 = some ⟨oc17, od17, .func (PySem.W.fnOf "members" "Tree.members" (defArgs Tree_members_s) (defBody Tree_members_s) (defScope Tree_members_s) .none kV17 dc17 pm17 an17 cd17 ct17), sl17⟩)
    (c17 : PySem.W.codeIn K cd17 "Tree.members" = true)
    (k17 : PySem.W.keepIn K (.ref f17) = true)
    (a18 : PySem.W.findIn K (.ref C) "stands" = some (some (.ref f18)))
    (i18 : PySem.W.isFn K (.ref f18) = true)
    (l18 : K.lookup f18 = some ⟨oc18, od18, .func (PySem.W.fnOf "stands" "Tree.stands" (defArgs Tree_stands_s) (defBody Tree_stands_s) (defScope Tree_stands_s) .none kV18 dc18 pm18 an18 cd18 ct18), sl18⟩)
    (c18 : PySem.W.codeIn K cd18 "Tree.stands" = true)
    (k18 : PySem.W.keepIn K (.ref f18) = true)
    (a19 : PySem.W.findIn K (.ref C) "__len__" = some (some (.ref f19)))
    (i19 : PySem.W.isFn K (.ref f19) = true)
    (l19 : K.lookup f19 = some ⟨oc19, od19, .func (PySem.W.fnOf "__len__" "Tree.__len__" (defArgs Tree_len_s) (defBody Tree_len_s) (defScope Tree_len_s) .none kV19 dc19 pm19 an19 cd19 ct19), sl19⟩)
    (c19 : PySem.W.codeIn K cd19 "Tree.__len__" = true)
    (k19 : PySem.W.keepIn K (.ref f19) = true)
    (a20 : PySem.W.findIn K (.ref C) "__contains__" = some (some (.ref f20)))
    (i20 : PySem.W.isFn K (.ref f20) = true)
    (l20 : K.lookup f20 = some ⟨oc20, od20, .func (PySem.W.fnOf "__contains__" "Tree.__contains__" (defArgs Tree_contains_s) (defBody Tree_contains_s) (defScope Tree_contains_s) .none kV20 dc20 pm20 an20 cd20 ct20), sl20⟩)
    (c20 : PySem.W.codeIn K cd20 "Tree.__contains__" = true)
    (k20 : PySem.W.keepIn K (.ref f20) = true)
    (a21 : PySem.W.findIn K (.ref C) "__invert__" = some (some (.ref f21)))
    (i21 : PySem.W.isFn K (.ref f21) = true)
    (l21 : K.lookup f21 = some ⟨oc21, od21, .func (PySem.W.fnOf "__invert__" "Tree.__invert__" (defArgs Tree_invert_s) (defBody Tree_invert_s) (defScope Tree_invert_s) .none kV21 dc21 pm21 an21 cd21 ct21), sl21⟩)
    (c21 : PySem.W.codeIn K cd21 "Tree.__invert__" = true)
    (k21 : PySem.W.keepIn K (.ref f21) = true)
    (a22 : PySem.W.findIn K (.ref C) "__and__" = some (some (.ref f22)))
    (i22 : PySem.W.isFn K (.ref f22) = true)
    (l22 : K.lookup f22 = some ⟨oc22, od22, .func (PySem.W.fnOf "__and__" "Tree.__and__" (defArgs Tree_and_s) (defBody Tree_and_s) (defScope Tree_and_s) .none kV22 dc22 pm22 an22 cd22 ct22), sl22⟩)
    (c22 : PySem.W.codeIn K cd22 "Tree.__and__" = true)
    (k22 : PySem.W.keepIn K (.ref f22) = true)
    (a23 : PySem.W.findIn K (.ref C) "__or__" = some (some (.ref f23)))
    (i23 : PySem.W.isFn K (.ref f23) = true)
    (l23 : K.lookup f23 = some ⟨oc23, od23, .func (PySem.W.fnOf "__or__" "Tree.__or__" (defArgs Tree_or_s) (defBody Tree_or_s) (defScope Tree_or_s) .none kV23 dc23 pm23 an23 cd23 ct23), sl23⟩)
    (c23 : PySem.W.codeIn K cd23 "Tree.__or__" = true)
    (k23 : PySem.W.keepIn K (.ref f23) = true)
    (a24 : PySem.W.findIn K (.ref C) "__eq__" = some (some (.ref f24)))
    (i24 : PySem.W.isFn K (.ref f24) = true)
    (l24 : K.lookup f24 = some ⟨oc24, od24, .func (PySem.W.fnOf "__eq__" "Tree.__eq__" (defArgs Tree_eq_s) (defBody Tree_eq_s) (defScope Tree_eq_s) .none kV24 dc24 pm24 an24 cd24 ct24), sl24⟩)
    (c24 : PySem.W.codeIn K cd24 "Tree.__eq__" = true)
    (k24 : PySem.W.keepIn K (.ref f24) = true)
    (a25 : PySem.W.findIn K (.ref C) "__repr__" = some (some (.ref f25)))
    (i25 : PySem.W.isFn K (.ref f25) = true)
    (l25 : K.lookup f25 = some ⟨oc25, od25, .func (PySem.W.fnOf "__repr__" "Tree.__repr__" (defArgs Tree_repr_s) (defBody Tree_repr_s) (defScope Tree_repr_s) .none kV25 dc25 pm25 an25 cd25 ct25), sl25⟩)
    (c25 : PySem.W.codeIn K cd25 "Tree.__repr__" = true)
    (k25 : PySem.W.keepIn K (.ref f25) = true)
    (a26 : PySem.W.nsIn K mainGlobals "_law_pot" = some (some (.ref f26)))
    (l26 : K.lookup f26 = some ⟨oc26, od26, .func (PySem.W.fnOf "_law_pot" "_law_pot" (defArgs _law_pot_s) (defBody _law_pot_s) (defScope _law_pot_s) .none kV26 dc26 pm26 an26 cd26 ct26), sl26⟩)
    (c26 : PySem.W.codeIn K cd26 "_law_pot" = true)
    (k26 : PySem.W.keepIn K (.ref f26) = true)
    (a27 : PySem.W.nsIn K mainGlobals "_law_draw" = some (some (.ref f27)))
    (l27 : K.lookup f27 = some ⟨oc27, od27, .func (PySem.W.fnOf "_law_draw" "_law_draw" (defArgs _law_draw_s) (defBody _law_draw_s) (defScope _law_draw_s) .none kV27 dc27 pm27 an27 cd27 ct27), sl27⟩)
    (c27 : PySem.W.codeIn K cd27 "_law_draw" = true)
    (k27 : PySem.W.keepIn K (.ref f27) = true)
    (a28 : PySem.W.nsIn K mainGlobals "_law_pick" = some (some (.ref f28)))
    (l28 : K.lookup f28 = some ⟨oc28, od28, .func (PySem.W.fnOf "_law_pick" "_law_pick" (defArgs _law_pick_s) (defBody _law_pick_s) (defScope _law_pick_s) .none kV28 dc28 pm28 an28 cd28 ct28), sl28⟩)
    (c28 : PySem.W.codeIn K cd28 "_law_pick" = true)
    (k28 : PySem.W.keepIn K (.ref f28) = true)
    (a29 : PySem.W.nsIn K mainGlobals "_law_mixed" = some (some (.ref f29)))
    (l29 : K.lookup f29 = some ⟨oc29, od29, .func (PySem.W.fnOf "_law_mixed" "_law_mixed" (defArgs _law_mixed_s) (defBody _law_mixed_s) (defScope _law_mixed_s) .none kV29 dc29 pm29 an29 cd29 ct29), sl29⟩)
    (c29 : PySem.W.codeIn K cd29 "_law_mixed" = true)
    (k29 : PySem.W.keepIn K (.ref f29) = true)
    (a30 : PySem.W.nsIn K mainGlobals "_law_names" = some (some (.ref f30)))
    (l30 : K.lookup f30 = some ⟨oc30, od30, .func (PySem.W.fnOf "_law_names" "_law_names" (defArgs _law_names_s) (defBody _law_names_s) (defScope _law_names_s) .none kV30 dc30 pm30 an30 cd30 ct30), sl30⟩)
    (c30 : PySem.W.codeIn K cd30 "_law_names" = true)
    (k30 : PySem.W.keepIn K (.ref f30) = true)
    (a31 : PySem.W.nsIn K mainGlobals "_law_parted" = some (some (.ref f31)))
    (l31 : K.lookup f31 = some ⟨oc31, od31, .func (PySem.W.fnOf "_law_parted" "_law_parted" (defArgs _law_parted_s) (defBody _law_parted_s) (defScope _law_parted_s) .none kV31 dc31 pm31 an31 cd31 ct31), sl31⟩)
    (c31 : PySem.W.codeIn K cd31 "_law_parted" = true)
    (k31 : PySem.W.keepIn K (.ref f31) = true)
    (a32 : PySem.W.nsIn K mainGlobals "_law_plain" = some (some (.ref f32)))
    (l32 : K.lookup f32 = some ⟨oc32, od32, .func (PySem.W.fnOf "_law_plain" "_law_plain" (defArgs _law_plain_s) (defBody _law_plain_s) (defScope _law_plain_s) .none kV32 dc32 pm32 an32 cd32 ct32), sl32⟩)
    (c32 : PySem.W.codeIn K cd32 "_law_plain" = true)
    (k32 : PySem.W.keepIn K (.ref f32) = true)
    (a33 : PySem.W.nsIn K mainGlobals "_law_any" = some (some (.ref f33)))
    (l33 : K.lookup f33 = some ⟨oc33, od33, .func (PySem.W.fnOf "_law_any" "_law_any" (defArgs _law_any_s) (defBody _law_any_s) (defScope _law_any_s) .none kV33 dc33 pm33 an33 cd33 ct33), sl33⟩)
    (c33 : PySem.W.codeIn K cd33 "_law_any" = true)
    (k33 : PySem.W.keepIn K (.ref f33) = true)
    (a34 : PySem.W.nsIn K mainGlobals "_law_shape" = some (some (.ref f34)))
    (l34 : K.lookup f34 = some ⟨oc34, od34, .func (PySem.W.fnOf "_law_shape" "_law_shape" (defArgs _law_shape_s) (defBody _law_shape_s) (defScope _law_shape_s) .none kV34 dc34 pm34 an34 cd34 ct34), sl34⟩)
    (c34 : PySem.W.codeIn K cd34 "_law_shape" = true)
    (k34 : PySem.W.keepIn K (.ref f34) = true)
    (a35 : PySem.W.nsIn K mainGlobals "_law_leaves" = some (some (.ref f35)))
    (l35 : K.lookup f35 = some ⟨oc35, od35, .func (PySem.W.fnOf "_law_leaves" "_law_leaves" (defArgs _law_leaves_s) (defBody _law_leaves_s) (defScope _law_leaves_s) .none kV35 dc35 pm35 an35 cd35 ct35), sl35⟩)
    (c35 : PySem.W.codeIn K cd35 "_law_leaves" = true)
    (k35 : PySem.W.keepIn K (.ref f35) = true)
    (a36 : PySem.W.nsIn K mainGlobals "_law_houses" = some (some (.ref f36)))
    (l36 : K.lookup f36 = some ⟨oc36, od36, .func (PySem.W.fnOf "_law_houses" "_law_houses" (defArgs _law_houses_s) (defBody _law_houses_s) (defScope _law_houses_s) .none kV36 dc36 pm36 an36 cd36 ct36), sl36⟩)
    (c36 : PySem.W.codeIn K cd36 "_law_houses" = true)
    (k36 : PySem.W.keepIn K (.ref f36) = true)
    (a37 : PySem.W.nsIn K mainGlobals "_law_is_plain" = some (some (.ref f37)))
    (l37 : K.lookup f37 = some ⟨oc37, od37, .func (PySem.W.fnOf "_law_is_plain" "_law_is_plain" (defArgs _law_is_plain_s) (defBody _law_is_plain_s) (defScope _law_is_plain_s) .none kV37 dc37 pm37 an37 cd37 ct37), sl37⟩)
    (c37 : PySem.W.codeIn K cd37 "_law_is_plain" = true)
    (k37 : PySem.W.keepIn K (.ref f37) = true)
    (a38 : PySem.W.nsIn K mainGlobals "_law_stands" = some (some (.ref f38)))
    (l38 : K.lookup f38 = some ⟨oc38, od38, .func (PySem.W.fnOf "_law_stands" "_law_stands" (defArgs _law_stands_s) (defBody _law_stands_s) (defScope _law_stands_s) .none kV38 dc38 pm38 an38 cd38 ct38), sl38⟩)
    (c38 : PySem.W.codeIn K cd38 "_law_stands" = true)
    (k38 : PySem.W.keepIn K (.ref f38) = true)
    (a39 : PySem.W.nsIn K mainGlobals "_law_turned" = some (some (.ref f39)))
    (l39 : K.lookup f39 = some ⟨oc39, od39, .func (PySem.W.fnOf "_law_turned" "_law_turned" (defArgs _law_turned_s) (defBody _law_turned_s) (defScope _law_turned_s) .none kV39 dc39 pm39 an39 cd39 ct39), sl39⟩)
    (c39 : PySem.W.codeIn K cd39 "_law_turned" = true)
    (k39 : PySem.W.keepIn K (.ref f39) = true)
    (a40 : PySem.W.nsIn K mainGlobals "_law_lists" = some (some (.ref f40)))
    (l40 : K.lookup f40 = some ⟨oc40, od40, .func (PySem.W.fnOf "_law_lists" "_law_lists" (defArgs _law_lists_s) (defBody _law_lists_s) (defScope _law_lists_s) .none kV40 dc40 pm40 an40 cd40 ct40), sl40⟩)
    (c40 : PySem.W.codeIn K cd40 "_law_lists" = true)
    (k40 : PySem.W.keepIn K (.ref f40) = true)
    (a41 : PySem.W.nsIn K mainGlobals "_law_tupled" = some (some (.ref f41)))
    (l41 : K.lookup f41 = some ⟨oc41, od41, .func (PySem.W.fnOf "_law_tupled" "_law_tupled" (defArgs _law_tupled_s) (defBody _law_tupled_s) (defScope _law_tupled_s) .none kV41 dc41 pm41 an41 cd41 ct41), sl41⟩)
    (c41 : PySem.W.codeIn K cd41 "_law_tupled" = true)
    (k41 : PySem.W.keepIn K (.ref f41) = true)
    (a42 : PySem.W.nsIn K mainGlobals "_law_listed" = some (some (.ref f42)))
    (l42 : K.lookup f42 = some ⟨oc42, od42, .func (PySem.W.fnOf "_law_listed" "_law_listed" (defArgs _law_listed_s) (defBody _law_listed_s) (defScope _law_listed_s) .none kV42 dc42 pm42 an42 cd42 ct42), sl42⟩)
    (c42 : PySem.W.codeIn K cd42 "_law_listed" = true)
    (k42 : PySem.W.keepIn K (.ref f42) = true)
    (a43 : PySem.W.nsIn K mainGlobals "_law_spoil" = some (some (.ref f43)))
    (l43 : K.lookup f43 = some ⟨oc43, od43, .func (PySem.W.fnOf "_law_spoil" "_law_spoil" (defArgs _law_spoil_s) (defBody _law_spoil_s) (defScope _law_spoil_s) .none kV43 dc43 pm43 an43 cd43 ct43), sl43⟩)
    (c43 : PySem.W.codeIn K cd43 "_law_spoil" = true)
    (k43 : PySem.W.keepIn K (.ref f43) = true)
    (a44 : PySem.W.nsIn K mainGlobals "_law_told_right" = some (some (.ref f44)))
    (l44 : K.lookup f44 = some ⟨oc44, od44, .func (PySem.W.fnOf "_law_told_right" "_law_told_right" (defArgs _law_told_right_s) (defBody _law_told_right_s) (defScope _law_told_right_s) .none kV44 dc44 pm44 an44 cd44 ct44), sl44⟩)
    (c44 : PySem.W.codeIn K cd44 "_law_told_right" = true)
    (k44 : PySem.W.keepIn K (.ref f44) = true)
    (a45 : PySem.W.nsIn K mainGlobals "_law_turned_right" = some (some (.ref f45)))
    (l45 : K.lookup f45 = some ⟨oc45, od45, .func (PySem.W.fnOf "_law_turned_right" "_law_turned_right" (defArgs _law_turned_right_s) (defBody _law_turned_right_s) (defScope _law_turned_right_s) .none kV45 dc45 pm45 an45 cd45 ct45), sl45⟩)
    (c45 : PySem.W.codeIn K cd45 "_law_turned_right" = true)
    (k45 : PySem.W.keepIn K (.ref f45) = true)
    (a46 : PySem.W.nsIn K mainGlobals "_law_joined_right" = some (some (.ref f46)))
    (l46 : K.lookup f46 = some ⟨oc46, od46, .func (PySem.W.fnOf "_law_joined_right" "_law_joined_right" (defArgs _law_joined_right_s) (defBody _law_joined_right_s) (defScope _law_joined_right_s) .none kV46 dc46 pm46 an46 cd46 ct46), sl46⟩)
    (c46 : PySem.W.codeIn K cd46 "_law_joined_right" = true)
    (k46 : PySem.W.keepIn K (.ref f46) = true)
    (a47 : PySem.W.nsIn K mainGlobals "_law_right" = some (some (.ref f47)))
    (l47 : K.lookup f47 = some ⟨oc47, od47, .func (PySem.W.fnOf "_law_right" "_law_right" (defArgs _law_right_s) (defBody _law_right_s) (defScope _law_right_s) .none kV47 dc47 pm47 an47 cd47 ct47), sl47⟩)
    (c47 : PySem.W.codeIn K cd47 "_law_right" = true)
    (k47 : PySem.W.keepIn K (.ref f47) = true)
    (a48 : PySem.W.nsIn K mainGlobals "law" = some (some (.ref f48)))
    (l48 : K.lookup f48 = some ⟨oc48, od48, .func (PySem.W.fnOf "law" "law" (defArgs law_s) (defBody law_s) (defScope law_s) .none kV48 dc48 pm48 an48 cd48 ct48), sl48⟩)
    (c48 : PySem.W.codeIn K cd48 "law" = true)
    (k48 : PySem.W.keepIn K (.ref f48) = true)
    (aC : PySem.W.nsIn K mainGlobals "Tree" = some (some (.ref C)))
    (pg : PySem.W.plainGet K C Str.empty = true)
    (hd : PySem.W.hasDictIn K C = true)
    (po : PySem.W.plainOver K C = true)
    (sa : PySem.W.findIn K (.ref C) "__setattr__" = some (some (.builtin "object.__setattr__")))
    (mk : PySem.W.makesIn K C = true)
    (kc : PySem.W.keepIn K (.ref C) = true)
    (n1 : PySem.W.findIn K (.ref C) "_shape" = some none)
    (n2 : PySem.W.findIn K (.ref C) "_leaves" = some none)
    (n3 : PySem.W.findIn K (.ref C) "_members" = some none)
    (dha : PySem.W.findIn K (.ref C) "__class__" = some (some (.builtin "object.__class__")))
    (dhn : PySem.W.specialIn K (.builtin "object.__class__") "__get__" = some (some (.builtin "getset_descriptor.__get__")))
    (dht : PySem.W.takesIn K (.builtin "object.__class__") = some true)
    (dhm : PySem.W.mroIn K C (.type "object") = some true)
    (dow : PySem.W.kitOne K (.ref C) (.ref C) = some true)
    (dsf : PySem.W.selfFirst K C = true)
    (dne : PySem.W.findIn K (.ref C) "__ne__" = some (some (.builtin "object.__ne__")))
    (dob : PySem.W.subIn K (.ref C) (.type "object") = some true)
    (oNoneType : PySem.W.kitOne K (.type "NoneType") (.ref C) = some false)
    (qNoneType : PySem.W.notFirst K C (.type "NoneType") = true)
    (obool : PySem.W.kitOne K (.type "bool") (.ref C) = some false)
    (qbool : PySem.W.notFirst K C (.type "bool") = true)
    (oint : PySem.W.kitOne K (.type "int") (.ref C) = some false)
    (qint : PySem.W.notFirst K C (.type "int") = true)
    (ostr : PySem.W.kitOne K (.type "str") (.ref C) = some false)
    (qstr : PySem.W.notFirst K C (.type "str") = true)
    (olist : PySem.W.kitOne K (.type "list") (.ref C) = some false)
    (qlist : PySem.W.notFirst K C (.type "list") = true)
    (otuple : PySem.W.kitOne K (.type "tuple") (.ref C) = some false)
    (qtuple : PySem.W.notFirst K C (.type "tuple") = true)
    (vHOUSES : PySem.W.nsIn K mainGlobals "HOUSES" = some (some (.int 24 tk0)))
    (vMOST_LEAVES : PySem.W.nsIn K mainGlobals "MOST_LEAVES" = some (some (.int 24 tk1)))
    (vMOST_DEPTH : PySem.W.nsIn K mainGlobals "MOST_DEPTH" = some (some (.int 5 tk2)))
    (vMOST_MIXED : PySem.W.nsIn K mainGlobals "MOST_MIXED" = some (some (.int 8 tk3)))
    (zisinstance : PySem.W.nsIn K mainGlobals "isinstance" = some none)
    (zint : PySem.W.nsIn K mainGlobals "int" = some none)
    (zbool : PySem.W.nsIn K mainGlobals "bool" = some none)
    (zlist : PySem.W.nsIn K mainGlobals "list" = some none)
    (ztuple : PySem.W.nsIn K mainGlobals "tuple" = some none)
    (zlen : PySem.W.nsIn K mainGlobals "len" = some none)
    (zstr : PySem.W.nsIn K mainGlobals "str" = some none)
    (zmax : PySem.W.nsIn K mainGlobals "max" = some none)
    (zall : PySem.W.nsIn K mainGlobals "all" = some none)
    (zrange : PySem.W.nsIn K mainGlobals "range" = some none)
    (zstaticmethod : PySem.W.nsIn K mainGlobals "staticmethod" = some none)
    (zproperty : PySem.W.nsIn K mainGlobals "property" = some none)
    (zabs : PySem.W.nsIn K mainGlobals "abs" = some none)
    (zdivmod : PySem.W.nsIn K mainGlobals "divmod" = some none)
    (zmin : PySem.W.nsIn K mainGlobals "min" = some none)
    (zsorted : PySem.W.nsIn K mainGlobals "sorted" = some none)
    (zset : PySem.W.nsIn K mainGlobals "set" = some none)
    (zany : PySem.W.nsIn K mainGlobals "any" = some none)
    (zrepr : PySem.W.nsIn K mainGlobals "repr" = some none)
    (zzip : PySem.W.nsIn K mainGlobals "zip" = some none)
    : ∃ fd : FuncData, (∀ (s : Shared) (u : Value), BindsTo s fd ⟨[u], []⟩ [("_law_script", u)]) ∧ ∀ base : Heap, K.In base → base.Ns mainGlobals mg → FnG P w K mg base 15 fa fd ["_law_script"] (spLaw K) := by
  have e : fa = f48 := by
    have q := hfa.symm.trans (PySem.W.mg_of X G a48)
    injection q with q
    injection q
  rw [e]
  have F0 := fun_mk (x := "is_integer") (qual := "is_integer") (st := is_integer_s) l0 c0 k0
  have F1 := fun_mk (x := "is_count") (qual := "is_count") (st := is_count_s) l1 c1 k1
  have F2 := fun_mk (x := "is_list") (qual := "is_list") (st := is_list_s) l2 c2 k2
  have F3 := fun_mk (x := "is_number_below") (qual := "is_number_below") (st := is_number_below_s) l3 c3 k3
  have F4 := fun_mk (x := "is_gate") (qual := "is_gate") (st := is_gate_s) l4 c4 k4
  have F5 := fun_mk (x := "is_tree") (qual := "is_tree") (st := is_tree_s) l5 c5 k5
  have F6 := fun_mk (x := "firm") (qual := "firm") (st := firm_s) l6 c6 k6
  have F7 := fun_mk (x := "listed") (qual := "listed") (st := listed_s) l7 c7 k7
  have F8 := fun_mk (x := "leaves") (qual := "leaves") (st := leaves_s) l8 c8 k8
  have F9 := fun_mk (x := "depth") (qual := "depth") (st := depth_s) l9 c9 k9
  have F10 := fun_mk (x := "contrary") (qual := "contrary") (st := contrary_s) l10 c10 k10
  have F11 := fun_mk (x := "stands_in") (qual := "stands_in") (st := stands_in_s) l11 c11 k11
  have F12 := fun_mk (x := "are_houses") (qual := "are_houses") (st := are_houses_s) l12 c12 k12
  have F13 := fun_mk (x := "__init__") (qual := "Tree.__init__") (st := Tree_init_s) l13 c13 k13
  have F14 := fun_mk (x := "of") (qual := "Tree.of") (st := Tree_of_s) l14 c14 k14
  have F15 := fun_mk (x := "shape") (qual := "Tree.shape") (st := Tree_shape_s) l15 c15 k15
  have F16 := fun_mk (x := "is_plain") (qual := "Tree.is_plain") (st := Tree_is_plain_s) l16 c16 k16
  have F17 := fun_mk (x := "members") (qual := "Tree.members") (st := Tree_members_s) l17 c17 k17
  have F18 := fun_mk (x := "stands") (qual := "Tree.stands") (st := Tree_stands_s) l18 c18 k18
  have F19 := fun_mk (x := "__len__") (qual := "Tree.__len__") (st := Tree_len_s) l19 c19 k19
  have F20 := fun_mk (x := "__contains__") (qual := "Tree.__contains__") (st := Tree_contains_s) l20 c20 k20
  have F21 := fun_mk (x := "__invert__") (qual := "Tree.__invert__") (st := Tree_invert_s) l21 c21 k21
  have F22 := fun_mk (x := "__and__") (qual := "Tree.__and__") (st := Tree_and_s) l22 c22 k22
  have F23 := fun_mk (x := "__or__") (qual := "Tree.__or__") (st := Tree_or_s) l23 c23 k23
  have F24 := fun_mk (x := "__eq__") (qual := "Tree.__eq__") (st := Tree_eq_s) l24 c24 k24
  have F25 := fun_mk (x := "__repr__") (qual := "Tree.__repr__") (st := Tree_repr_s) l25 c25 k25
  have F26 := fun_mk (x := "_law_pot") (qual := "_law_pot") (st := _law_pot_s) l26 c26 k26
  have F27 := fun_mk (x := "_law_draw") (qual := "_law_draw") (st := _law_draw_s) l27 c27 k27
  have F28 := fun_mk (x := "_law_pick") (qual := "_law_pick") (st := _law_pick_s) l28 c28 k28
  have F29 := fun_mk (x := "_law_mixed") (qual := "_law_mixed") (st := _law_mixed_s) l29 c29 k29
  have F30 := fun_mk (x := "_law_names") (qual := "_law_names") (st := _law_names_s) l30 c30 k30
  have F31 := fun_mk (x := "_law_parted") (qual := "_law_parted") (st := _law_parted_s) l31 c31 k31
  have F32 := fun_mk (x := "_law_plain") (qual := "_law_plain") (st := _law_plain_s) l32 c32 k32
  have F33 := fun_mk (x := "_law_any") (qual := "_law_any") (st := _law_any_s) l33 c33 k33
  have F34 := fun_mk (x := "_law_shape") (qual := "_law_shape") (st := _law_shape_s) l34 c34 k34
  have F35 := fun_mk (x := "_law_leaves") (qual := "_law_leaves") (st := _law_leaves_s) l35 c35 k35
  have F36 := fun_mk (x := "_law_houses") (qual := "_law_houses") (st := _law_houses_s) l36 c36 k36
  have F37 := fun_mk (x := "_law_is_plain") (qual := "_law_is_plain") (st := _law_is_plain_s) l37 c37 k37
  have F38 := fun_mk (x := "_law_stands") (qual := "_law_stands") (st := _law_stands_s) l38 c38 k38
  have F39 := fun_mk (x := "_law_turned") (qual := "_law_turned") (st := _law_turned_s) l39 c39 k39
  have F40 := fun_mk (x := "_law_lists") (qual := "_law_lists") (st := _law_lists_s) l40 c40 k40
  have F41 := fun_mk (x := "_law_tupled") (qual := "_law_tupled") (st := _law_tupled_s) l41 c41 k41
  have F42 := fun_mk (x := "_law_listed") (qual := "_law_listed") (st := _law_listed_s) l42 c42 k42
  have F43 := fun_mk (x := "_law_spoil") (qual := "_law_spoil") (st := _law_spoil_s) l43 c43 k43
  have F44 := fun_mk (x := "_law_told_right") (qual := "_law_told_right") (st := _law_told_right_s) l44 c44 k44
  have F45 := fun_mk (x := "_law_turned_right") (qual := "_law_turned_right") (st := _law_turned_right_s) l45 c45 k45
  have F46 := fun_mk (x := "_law_joined_right") (qual := "_law_joined_right") (st := _law_joined_right_s) l46 c46 k46
  have F47 := fun_mk (x := "_law_right") (qual := "_law_right") (st := _law_right_s) l47 c47 k47
  have F48 := fun_mk (x := "law") (qual := "law") (st := law_s) l48 c48 k48
  have b0 := F0.binds (ps := ["value"]) fun _ _ _ _ _ _ us hl => match us, hl with | [_], _ => rfl
  have b1 := F1.binds (ps := ["value"]) fun _ _ _ _ _ _ us hl => match us, hl with | [_], _ => rfl
  have b2 := F2.binds (ps := ["value"]) fun _ _ _ _ _ _ us hl => match us, hl with | [_], _ => rfl
  have b3 := F3.binds (ps := ["value", "many"]) fun _ _ _ _ _ _ us hl => match us, hl with | [_, _], _ => rfl
  have b4 := F4.binds (ps := ["value"]) fun _ _ _ _ _ _ us hl => match us, hl with | [_], _ => rfl
  have b5 := F5.binds (ps := ["value"]) fun _ _ _ _ _ _ us hl => match us, hl with | [_], _ => rfl
  have b6 := F6.binds (ps := ["shape"]) fun _ _ _ _ _ _ us hl => match us, hl with | [_], _ => rfl
  have b7 := F7.binds (ps := ["shape"]) fun _ _ _ _ _ _ us hl => match us, hl with | [_], _ => rfl
  have b8 := F8.binds (ps := ["shape"]) fun _ _ _ _ _ _ us hl => match us, hl with | [_], _ => rfl
  have b9 := F9.binds (ps := ["shape"]) fun _ _ _ _ _ _ us hl => match us, hl with | [_], _ => rfl
  have b10 := F10.binds (ps := ["shape"]) fun _ _ _ _ _ _ us hl => match us, hl with | [_], _ => rfl
  have b11 := F11.binds (ps := ["shape", "houses"]) fun _ _ _ _ _ _ us hl => match us, hl with | [_, _], _ => rfl
  have b12 := F12.binds (ps := ["members", "value"]) fun _ _ _ _ _ _ us hl => match us, hl with | [_, _], _ => rfl
  have b13 := F13.binds (ps := ["self", "shape"]) fun _ _ _ _ _ _ us hl => match us, hl with | [_, _], _ => rfl
  have b15 := F15.binds (ps := ["self"]) fun _ _ _ _ _ _ us hl => match us, hl with | [_], _ => rfl
  have b16 := F16.binds (ps := ["self"]) fun _ _ _ _ _ _ us hl => match us, hl with | [_], _ => rfl
  have b17 := F17.binds (ps := ["self"]) fun _ _ _ _ _ _ us hl => match us, hl with | [_], _ => rfl
  have b18 := F18.binds (ps := ["self", "houses"]) fun _ _ _ _ _ _ us hl => match us, hl with | [_, _], _ => rfl
  have b19 := F19.binds (ps := ["self"]) fun _ _ _ _ _ _ us hl => match us, hl with | [_], _ => rfl
  have b20 := F20.binds (ps := ["self", "x"]) fun _ _ _ _ _ _ us hl => match us, hl with | [_, _], _ => rfl
  have b21 := F21.binds (ps := ["self"]) fun _ _ _ _ _ _ us hl => match us, hl with | [_], _ => rfl
  have b22 := F22.binds (ps := ["self", "other"]) fun _ _ _ _ _ _ us hl => match us, hl with | [_, _], _ => rfl
  have b23 := F23.binds (ps := ["self", "other"]) fun _ _ _ _ _ _ us hl => match us, hl with | [_, _], _ => rfl
  have b24 := F24.binds (ps := ["self", "other"]) fun _ _ _ _ _ _ us hl => match us, hl with | [_, _], _ => rfl
  have b25 := F25.binds (ps := ["self"]) fun _ _ _ _ _ _ us hl => match us, hl with | [_], _ => rfl
  have b26 := F26.binds (ps := ["_law_script", "_law_k"]) fun _ _ _ _ _ _ us hl => match us, hl with | [_, _], _ => rfl
  have b27 := F27.binds (ps := ["_law_pot_here", "_law_many"]) fun _ _ _ _ _ _ us hl => match us, hl with | [_, _], _ => rfl
  have b28 := F28.binds (ps := ["_law_pot_here", "_law_menu"]) fun _ _ _ _ _ _ us hl => match us, hl with | [_, _], _ => rfl
  have b29 := F29.binds (ps := ["_law_pot_here", "_law_some"]) fun _ _ _ _ _ _ us hl => match us, hl with | [_, _], _ => rfl
  have b30 := F30.binds (ps := ["_law_pot_here", "_law_many"]) fun _ _ _ _ _ _ us hl => match us, hl with | [_, _], _ => rfl
  have b31 := F31.binds (ps := ["_law_pot_here", "_law_tags"]) fun _ _ _ _ _ _ us hl => match us, hl with | [_, _], _ => rfl
  have b32 := F32.binds (ps := ["_law_pot_here", "_law_tags", "_law_deep"]) fun _ _ _ _ _ _ us hl => match us, hl with | [_, _, _], _ => rfl
  have b33 := F33.binds (ps := ["_law_pot_here", "_law_tags", "_law_deep"]) fun _ _ _ _ _ _ us hl => match us, hl with | [_, _, _], _ => rfl
  have b34 := F34.binds (ps := ["_law_pot_here", "_law_most"]) fun _ _ _ _ _ _ us hl => match us, hl with | [_, _], _ => rfl
  have b35 := F35.binds (ps := ["_law_sketch"]) fun _ _ _ _ _ _ us hl => match us, hl with | [_], _ => rfl
  have b36 := F36.binds (ps := ["_law_sketch"]) fun _ _ _ _ _ _ us hl => match us, hl with | [_], _ => rfl
  have b37 := F37.binds (ps := ["_law_sketch"]) fun _ _ _ _ _ _ us hl => match us, hl with | [_], _ => rfl
  have b38 := F38.binds (ps := ["_law_sketch", "_law_some"]) fun _ _ _ _ _ _ us hl => match us, hl with | [_, _], _ => rfl
  have b39 := F39.binds (ps := ["_law_sketch"]) fun _ _ _ _ _ _ us hl => match us, hl with | [_], _ => rfl
  have b40 := F40.binds (ps := ["_law_some"]) fun _ _ _ _ _ _ us hl => match us, hl with | [_], _ => rfl
  have b41 := F41.binds (ps := ["_law_sketch"]) fun _ _ _ _ _ _ us hl => match us, hl with | [_], _ => rfl
  have b42 := F42.binds (ps := ["_law_sketch"]) fun _ _ _ _ _ _ us hl => match us, hl with | [_], _ => rfl
  have b43 := F43.binds (ps := ["_law_sketch"]) fun _ _ _ _ _ _ us hl => match us, hl with | [_], _ => rfl
  have b44 := F44.binds (ps := ["_law_plant", "_law_sketch"]) fun _ _ _ _ _ _ us hl => match us, hl with | [_, _], _ => rfl
  have b45 := F45.binds (ps := ["_law_plant", "_law_sketch", "_law_tags"]) fun _ _ _ _ _ _ us hl => match us, hl with | [_, _, _], _ => rfl
  have b46 := F46.binds (ps := ["_law_pot_here", "_law_plant", "_law_sketch"]) fun _ _ _ _ _ _ us hl => match us, hl with | [_, _, _], _ => rfl
  have b47 := F47.binds (ps := ["_law_pot_here"]) fun _ _ _ _ _ _ us hl => match us, hl with | [_], _ => rfl
  have b48 := F48.binds (ps := ["_law_script"]) fun _ _ _ _ _ _ us hl => match us, hl with | [_], _ => rfl
  let fa_ : Nat → Addr := fun i => [f0, f1, f2, f3, f4, f5, f6, f7, f8, f9, f10, f11, f12, f13, f14, f15, f16, f17, f18, f19, f20, f21, f22, f23, f24, f25, f26, f27, f28, f29, f30, f31, f32, f33, f34, f35, f36, f37, f38, f39, f40, f41, f42, f43, f44, f45, f46, f47, f48].getD i 0
  let fd_ : Nat → FuncData := fun i => [(PySem.W.fnOf "is_integer" "is_integer" (defArgs is_integer_s) (defBody is_integer_s) (defScope is_integer_s) .none kV0 dc0 pm0 an0 cd0 ct0),
    (PySem.W.fnOf "is_count" "is_count" (defArgs is_count_s) (defBody is_count_s) (defScope is_count_s) .none kV1 dc1 pm1 an1 cd1 ct1),
    (PySem.W.fnOf "is_list" "is_list" (defArgs is_list_s) (defBody is_list_s) (defScope is_list_s) .none kV2 dc2 pm2 an2 cd2 ct2),
    (PySem.W.fnOf "is_number_below" "is_number_below" (defArgs is_number_below_s) (defBody is_number_below_s) (defScope is_number_below_s) .none kV3 dc3 pm3 an3 cd3 ct3),
    (PySem.W.fnOf "is_gate" "is_gate" (defArgs is_gate_s) (defBody is_gate_s) (defScope is_gate_s) .none kV4 dc4 pm4 an4 cd4 ct4),
    (PySem.W.fnOf "is_tree" "is_tree" (defArgs is_tree_s) (defBody is_tree_s) (defScope is_tree_s) .none kV5 dc5 pm5 an5 cd5 ct5),
    (PySem.W.fnOf "firm" "firm" (defArgs firm_s) (defBody firm_s) (defScope firm_s) .none kV6 dc6 pm6 an6 cd6 ct6),
    (PySem.W.fnOf "listed" "listed" (defArgs listed_s) (defBody listed_s) (defScope listed_s) .none kV7 dc7 pm7 an7 cd7 ct7),
    (PySem.W.fnOf "leaves" "leaves" (defArgs leaves_s) (defBody leaves_s) (defScope leaves_s) .none kV8 dc8 pm8 an8 cd8 ct8),
    (PySem.W.fnOf "depth" "depth" (defArgs depth_s) (defBody depth_s) (defScope depth_s) .none kV9 dc9 pm9 an9 cd9 ct9),
    (PySem.W.fnOf "contrary" "contrary" (defArgs contrary_s) (defBody contrary_s) (defScope contrary_s) .none kV10 dc10 pm10 an10 cd10 ct10),
    (PySem.W.fnOf "stands_in" "stands_in" (defArgs stands_in_s) (defBody stands_in_s) (defScope stands_in_s) .none kV11 dc11 pm11 an11 cd11 ct11),
    (PySem.W.fnOf "are_houses" "are_houses" (defArgs are_houses_s) (defBody are_houses_s) (defScope are_houses_s) .none kV12 dc12 pm12 an12 cd12 ct12),
    (PySem.W.fnOf "__init__" "Tree.__init__" (defArgs Tree_init_s) (defBody Tree_init_s) (defScope Tree_init_s) .none kV13 dc13 pm13 an13 cd13 ct13),
    (PySem.W.fnOf "of" "Tree.of" (defArgs Tree_of_s) (defBody Tree_of_s) (defScope Tree_of_s) .none kV14 dc14 pm14 an14 cd14 ct14),
    (PySem.W.fnOf "shape" "Tree.shape" (defArgs Tree_shape_s) (defBody Tree_shape_s) (defScope Tree_shape_s) .none kV15 dc15 pm15 an15 cd15 ct15),
    (PySem.W.fnOf "is_plain" "Tree.is_plain" (defArgs Tree_is_plain_s) (defBody Tree_is_plain_s) (defScope Tree_is_plain_s) .none kV16 dc16 pm16 an16 cd16 ct16),
    (PySem.W.fnOf "members" "Tree.members" (defArgs Tree_members_s) (defBody Tree_members_s) (defScope Tree_members_s) .none kV17 dc17 pm17 an17 cd17 ct17),
    (PySem.W.fnOf "stands" "Tree.stands" (defArgs Tree_stands_s) (defBody Tree_stands_s) (defScope Tree_stands_s) .none kV18 dc18 pm18 an18 cd18 ct18),
    (PySem.W.fnOf "__len__" "Tree.__len__" (defArgs Tree_len_s) (defBody Tree_len_s) (defScope Tree_len_s) .none kV19 dc19 pm19 an19 cd19 ct19),
    (PySem.W.fnOf "__contains__" "Tree.__contains__" (defArgs Tree_contains_s) (defBody Tree_contains_s) (defScope Tree_contains_s) .none kV20 dc20 pm20 an20 cd20 ct20),
    (PySem.W.fnOf "__invert__" "Tree.__invert__" (defArgs Tree_invert_s) (defBody Tree_invert_s) (defScope Tree_invert_s) .none kV21 dc21 pm21 an21 cd21 ct21),
    (PySem.W.fnOf "__and__" "Tree.__and__" (defArgs Tree_and_s) (defBody Tree_and_s) (defScope Tree_and_s) .none kV22 dc22 pm22 an22 cd22 ct22),
    (PySem.W.fnOf "__or__" "Tree.__or__" (defArgs Tree_or_s) (defBody Tree_or_s) (defScope Tree_or_s) .none kV23 dc23 pm23 an23 cd23 ct23),
    (PySem.W.fnOf "__eq__" "Tree.__eq__" (defArgs Tree_eq_s) (defBody Tree_eq_s) (defScope Tree_eq_s) .none kV24 dc24 pm24 an24 cd24 ct24),
    (PySem.W.fnOf "__repr__" "Tree.__repr__" (defArgs Tree_repr_s) (defBody Tree_repr_s) (defScope Tree_repr_s) .none kV25 dc25 pm25 an25 cd25 ct25),
    (PySem.W.fnOf "_law_pot" "_law_pot" (defArgs _law_pot_s) (defBody _law_pot_s) (defScope _law_pot_s) .none kV26 dc26 pm26 an26 cd26 ct26),
    (PySem.W.fnOf "_law_draw" "_law_draw" (defArgs _law_draw_s) (defBody _law_draw_s) (defScope _law_draw_s) .none kV27 dc27 pm27 an27 cd27 ct27),
    (PySem.W.fnOf "_law_pick" "_law_pick" (defArgs _law_pick_s) (defBody _law_pick_s) (defScope _law_pick_s) .none kV28 dc28 pm28 an28 cd28 ct28),
    (PySem.W.fnOf "_law_mixed" "_law_mixed" (defArgs _law_mixed_s) (defBody _law_mixed_s) (defScope _law_mixed_s) .none kV29 dc29 pm29 an29 cd29 ct29),
    (PySem.W.fnOf "_law_names" "_law_names" (defArgs _law_names_s) (defBody _law_names_s) (defScope _law_names_s) .none kV30 dc30 pm30 an30 cd30 ct30),
    (PySem.W.fnOf "_law_parted" "_law_parted" (defArgs _law_parted_s) (defBody _law_parted_s) (defScope _law_parted_s) .none kV31 dc31 pm31 an31 cd31 ct31),
    (PySem.W.fnOf "_law_plain" "_law_plain" (defArgs _law_plain_s) (defBody _law_plain_s) (defScope _law_plain_s) .none kV32 dc32 pm32 an32 cd32 ct32),
    (PySem.W.fnOf "_law_any" "_law_any" (defArgs _law_any_s) (defBody _law_any_s) (defScope _law_any_s) .none kV33 dc33 pm33 an33 cd33 ct33),
    (PySem.W.fnOf "_law_shape" "_law_shape" (defArgs _law_shape_s) (defBody _law_shape_s) (defScope _law_shape_s) .none kV34 dc34 pm34 an34 cd34 ct34),
    (PySem.W.fnOf "_law_leaves" "_law_leaves" (defArgs _law_leaves_s) (defBody _law_leaves_s) (defScope _law_leaves_s) .none kV35 dc35 pm35 an35 cd35 ct35),
    (PySem.W.fnOf "_law_houses" "_law_houses" (defArgs _law_houses_s) (defBody _law_houses_s) (defScope _law_houses_s) .none kV36 dc36 pm36 an36 cd36 ct36),
    (PySem.W.fnOf "_law_is_plain" "_law_is_plain" (defArgs _law_is_plain_s) (defBody _law_is_plain_s) (defScope _law_is_plain_s) .none kV37 dc37 pm37 an37 cd37 ct37),
    (PySem.W.fnOf "_law_stands" "_law_stands" (defArgs _law_stands_s) (defBody _law_stands_s) (defScope _law_stands_s) .none kV38 dc38 pm38 an38 cd38 ct38),
    (PySem.W.fnOf "_law_turned" "_law_turned" (defArgs _law_turned_s) (defBody _law_turned_s) (defScope _law_turned_s) .none kV39 dc39 pm39 an39 cd39 ct39),
    (PySem.W.fnOf "_law_lists" "_law_lists" (defArgs _law_lists_s) (defBody _law_lists_s) (defScope _law_lists_s) .none kV40 dc40 pm40 an40 cd40 ct40),
    (PySem.W.fnOf "_law_tupled" "_law_tupled" (defArgs _law_tupled_s) (defBody _law_tupled_s) (defScope _law_tupled_s) .none kV41 dc41 pm41 an41 cd41 ct41),
    (PySem.W.fnOf "_law_listed" "_law_listed" (defArgs _law_listed_s) (defBody _law_listed_s) (defScope _law_listed_s) .none kV42 dc42 pm42 an42 cd42 ct42),
    (PySem.W.fnOf "_law_spoil" "_law_spoil" (defArgs _law_spoil_s) (defBody _law_spoil_s) (defScope _law_spoil_s) .none kV43 dc43 pm43 an43 cd43 ct43),
    (PySem.W.fnOf "_law_told_right" "_law_told_right" (defArgs _law_told_right_s) (defBody _law_told_right_s) (defScope _law_told_right_s) .none kV44 dc44 pm44 an44 cd44 ct44),
    (PySem.W.fnOf "_law_turned_right" "_law_turned_right" (defArgs _law_turned_right_s) (defBody _law_turned_right_s) (defScope _law_turned_right_s) .none kV45 dc45 pm45 an45 cd45 ct45),
    (PySem.W.fnOf "_law_joined_right" "_law_joined_right" (defArgs _law_joined_right_s) (defBody _law_joined_right_s) (defScope _law_joined_right_s) .none kV46 dc46 pm46 an46 cd46 ct46),
    (PySem.W.fnOf "_law_right" "_law_right" (defArgs _law_right_s) (defBody _law_right_s) (defScope _law_right_s) .none kV47 dc47 pm47 an47 cd47 ct47),
    (PySem.W.fnOf "law" "law" (defArgs law_s) (defBody law_s) (defScope law_s) .none kV48 dc48 pm48 an48 cd48 ct48)].getD i (PySem.W.fnOf "law" "law" (defArgs law_s) (defBody law_s) (defScope law_s) .none kV48 dc48 pm48 an48 cd48 ct48)
  have T : Txt K mg fa_ fd_ C (fun i => [tk0, tk1, tk2, tk3].getD i tk0) := ⟨F0, PySem.W.mg_of X G a0, b0, F1, PySem.W.mg_of X G a1, b1, F2, PySem.W.mg_of X G a2, b2, F3, PySem.W.mg_of X G a3, b3, F4, PySem.W.mg_of X G a4, b4, F5, PySem.W.mg_of X G a5, b5, F6, PySem.W.mg_of X G a6, b6, F7, PySem.W.mg_of X G a7, b7, F8, PySem.W.mg_of X G a8, b8, F9, PySem.W.mg_of X G a9, b9, F10, PySem.W.mg_of X G a10, b10, F11, PySem.W.mg_of X G a11, b11, F12, PySem.W.mg_of X G a12, b12, F13, b13, F14, F15, b15, F16, b16, F17, b17, F18, b18, F19, b19, F20, b20, F21, b21, F22, b22, F23, b23, F24, b24, F25, b25, F26, PySem.W.mg_of X G a26, b26, F27, PySem.W.mg_of X G a27, b27, F28, PySem.W.mg_of X G a28, b28, F29, PySem.W.mg_of X G a29, b29, F30, PySem.W.mg_of X G a30, b30, F31, PySem.W.mg_of X G a31, b31, F32, PySem.W.mg_of X G a32, b32, F33, PySem.W.mg_of X G a33, b33, F34, PySem.W.mg_of X G a34, b34, F35, PySem.W.mg_of X G a35, b35, F36, PySem.W.mg_of X G a36, b36, F37, PySem.W.mg_of X G a37, b37, F38, PySem.W.mg_of X G a38, b38, F39, PySem.W.mg_of X G a39, b39, F40, PySem.W.mg_of X G a40, b40, F41, PySem.W.mg_of X G a41, b41, F42, PySem.W.mg_of X G a42, b42, F43, PySem.W.mg_of X G a43, b43, F44, PySem.W.mg_of X G a44, b44, F45, PySem.W.mg_of X G a45, b45, F46, PySem.W.mg_of X G a46, b46, F47, PySem.W.mg_of X G a47, b47, F48, PySem.W.mg_of X G a48, b48, PySem.W.mg_of X G vHOUSES, PySem.W.mg_of X G vMOST_LEAVES, PySem.W.mg_of X G vMOST_DEPTH, PySem.W.mg_of X G vMOST_MIXED, PySem.W.mg_none_of X G zisinstance, PySem.W.mg_none_of X G zint, PySem.W.mg_none_of X G zbool, PySem.W.mg_none_of X G zlist, PySem.W.mg_none_of X G ztuple, PySem.W.mg_none_of X G zlen, PySem.W.mg_none_of X G zstr, PySem.W.mg_none_of X G zmax, PySem.W.mg_none_of X G zall, PySem.W.mg_none_of X G zrange, PySem.W.mg_none_of X G zstaticmethod, PySem.W.mg_none_of X G zproperty, PySem.W.mg_none_of X G zabs, PySem.W.mg_none_of X G zdivmod, PySem.W.mg_none_of X G zmin, PySem.W.mg_none_of X G zsorted, PySem.W.mg_none_of X G zset, PySem.W.mg_none_of X G zany, PySem.W.mg_none_of X G zrepr, PySem.W.mg_none_of X G zzip⟩
  have U : TxC K mg fa_ C := ⟨⟨pg, hd, po, sa⟩, n1, n2, n3, ⟨mk, a13, i13, kc⟩, PySem.W.mg_of X G aC, ⟨a17, i17, k17⟩, ⟨a18, i18, k18⟩, ⟨p15, a15, g15, t15, _, r15⟩, ⟨p16, a16, g16, t16, _, r16⟩, ⟨a19, i19, k19⟩, ⟨a20, i20, k20⟩, ⟨a21, i21, k21⟩, ⟨a22, i22, k22⟩, ⟨a23, i23, k23⟩, ⟨a24, i24, k24⟩, ⟨a25, i25, k25⟩⟩
  have D : TxD K C := ⟨dha, dhn, dht, dhm, dow, (fun n hn => by
    rcases List.mem_cons.mp hn with rfl | hn
    · exact oNoneType
    rcases List.mem_cons.mp hn with rfl | hn
    · exact obool
    rcases List.mem_cons.mp hn with rfl | hn
    · exact oint
    rcases List.mem_cons.mp hn with rfl | hn
    · exact ostr
    rcases List.mem_cons.mp hn with rfl | hn
    · exact olist
    rcases List.mem_cons.mp hn with rfl | hn
    · exact otuple
    cases hn),
    (fun n hn => by
    rcases List.mem_cons.mp hn with rfl | hn
    · exact qNoneType
    rcases List.mem_cons.mp hn with rfl | hn
    · exact qbool
    rcases List.mem_cons.mp hn with rfl | hn
    · exact qint
    rcases List.mem_cons.mp hn with rfl | hn
    · exact qstr
    rcases List.mem_cons.mp hn with rfl | hn
    · exact qlist
    rcases List.mem_cons.mp hn with rfl | hn
    · exact qtuple
    cases hn), dsf, dne, dob⟩
  have S : SMet K C mc "of" p14 (fa_ 14) := ⟨g14, t14, a14, ⟨_, r14⟩, k14⟩
  have w18 : KBn K (fd_ 18) ["self", "houses"] 1 ["houses"] (fun us ws => us ++ ws) (fun vs zs => vs ++ zs) := kbn_of fun us ws h1 h2 => match us, ws, h1, h2 with | [_], [_], _, _ => rfl
  have w13 : KBn K (fd_ 13) ["self", "shape"] 1 ["shape"] (fun us ws => us ++ ws) (fun vs zs => vs ++ zs) := kbn_of fun us ws h1 h2 => match us, ws, h1, h2 with | [_], [_], _, _ => rfl
  have w5 : KBn K (fd_ 5) ["value"] 0 ["value"] (fun us ws => us ++ ws) (fun vs zs => vs ++ zs) := kbn_of fun us ws h1 h2 => match us, ws, h1, h2 with | [], [_], _, _ => rfl
  exact ⟨fd_ 48, fun s v => .of_eq rfl, fun base _ _ => ok_law T U D mc p14 S w18 w13 w5⟩
end K31

set_option maxRecDepth 100000
namespace K31
open PySem PySem.Spec PyProof.Rows L2 Kh
def allTy (l : List Value) : Bool := l.all fun v => match v with
  | .type _ => true
  | _ => false
theorem allTy_not {l : List Value} {C : Addr} (h : allTy l = true) : l.contains (.ref C) = false := by
  induction l with
  | nil => rfl
  | cons v l ih =>
    unfold allTy at h
    rw [List.all_cons, Bool.and_eq_true] at h
    have e : (Value.ref C == v) = false := by
      cases v with
      | type _ => rfl
      | _ => exact absurd h.1 (by simp)
    rw [List.contains_cons, e, Bool.false_or]
    exact ih h.2
theorem kit_oth {K : PySem.W.Frag} {C : Addr} {n : String} {u} (ci : PySem.W.clsIn K C = some u) (ty : PySem.W.typeIn K (.ref C) = some (.type "type")) (h : ((fastBuiltinMro n).map allTy) = some true) : PySem.W.kitOne K (.type n) (.ref C) = some false := by
  unfold PySem.W.kitOne
  rw [if_neg (by show ¬ ((Value.type n == Value.ref C) = true); exact fun z => nomatch z)]
  show (if ((PySem.W.clsIn K C).isSome && PySem.W.typeIn K (.ref C) == some (.type "type")) = true then PySem.W.subIn K (.type n) (.ref C) else none) = some false
  rw [ci, ty, if_pos (by simp)]
  show (fastBuiltinMro n).map (·.contains (.ref C)) = some false
  cases e : fastBuiltinMro n with
  | none => rw [e] at h; cases h
  | some l => rw [e] at h; exact congrArg some (allTy_not (Option.some.inj h))
theorem mro6 : ∀ n ∈ ["NoneType", "bool", "int", "str", "list", "tuple"], ((fastBuiltinMro n).map allTy) = some true := by decide +kernel
end K31

set_option maxRecDepth 100000
namespace K31
open PySem PySem.Spec PyProof.Rows L2 Kh
theorem walk {l : PySem.W.OpenLaw} {q : Program} {loose : List Str} {XP : (Str → Option Value) → Heap → Prop} {YP : World → Heap → Prop} {d : DefRec} {K : Params → PySem.W.Frag} (m1 : l.most = some 63) (m2 : d.params.defaults = [])
    (m3 : ∀ (w : World) (h : Heap), YP w h → (K w.params).In h)
    (Fl : ∀ (w : World) (mg : Str → Option Value) (fa : Addr) (h : Heap), (K w.params).In h → h.Ns mainGlobals mg → mg d.name = some (.ref fa) → ∃ fd : FuncData, (∀ (s : Shared) (u : Value), BindsTo s fd ⟨[u], []⟩ [("_law_script", u)]) ∧ ∀ base : Heap, (K w.params).In base → base.Ns mainGlobals mg → FnG l.prog w (K w.params) mg base 15 fa fd ["_law_script"] (spLaw (K w.params))) :
    PySem.W.WalkO q loose XP YP l.row.toRowW d [] (fun f vs => PySem.call f vs) :=
  walk_g (n := 63) (k := 15) (x := "_law_script") (sp := fun w => spLaw (K w.params)) m1 (by decide) m2 ⟨rfl, by decide, by decide⟩ m3 Fl fun _ _ a ns hl hS => ⟨a, ns, rfl, hS, Nat.le_trans hl (by decide), fun _ => rfl⟩
end K31

open PySem PySem.W PyProof.Rows in
set_option maxRecDepth 100000 in
set_option maxHeartbeats 0 in
theorem PySem.Challenge.cw_oneshelf_k31_whole_trees_told_holds : PySem.Challenge.rw_oneshelf_k31_whole_trees_told.Holds := by
  w_on; o_law; k_head; (case hw => w_witness2)
  k_fill
  refine K31.walk (l := PySem.Challenge.rw_oneshelf_k31_whole_trees_told) rfl rfl (fun w h Y => PySem.W.kIn_of Y) ?F
  case F =>
    intro w mg fa h KX G hmg
    refine' K31.all_mk (mc := .type "type") KX G hmg ?a0 ?l0 ?c0 ?k0 ?a1 ?l1 ?c1 ?k1 ?a2 ?l2 ?c2 ?k2 ?a3 ?l3 ?c3 ?k3 ?a4 ?l4 ?c4 ?k4 ?a5 ?l5 ?c5 ?k5 ?a6 ?l6 ?c6 ?k6 ?a7 ?l7 ?c7 ?k7 ?a8 ?l8 ?c8 ?k8 ?a9 ?l9 ?c9 ?k9 ?a10 ?l10 ?c10 ?k10 ?a11 ?l11 ?c11 ?k11 ?a12 ?l12 ?c12 ?k12 ?a13 ?i13 ?l13 ?c13 ?k13 ?a14 ?g14 ?t14 ?r14 ?l14 ?c14 ?k14 ?a15 ?g15 ?t15 ?r15 ?l15 ?c15 ?k15 ?a16 ?g16 ?t16 ?r16 ?l16 ?c16 ?k16 ?a17 ?i17 ?l17 ?c17 ?k17 ?a18 ?i18 ?l18 ?c18 ?k18 ?a19 ?i19 ?l19 ?c19 ?k19 ?a20 ?i20 ?l20 ?c20 ?k20 ?a21 ?i21 ?l21 ?c21 ?k21 ?a22 ?i22 ?l22 ?c22 ?k22 ?a23 ?i23 ?l23 ?c23 ?k23 ?a24 ?i24 ?l24 ?c24 ?k24 ?a25 ?i25 ?l25 ?c25 ?k25 ?a26 ?l26 ?c26 ?k26 ?a27 ?l27 ?c27 ?k27 ?a28 ?l28 ?c28 ?k28 ?a29 ?l29 ?c29 ?k29 ?a30 ?l30 ?c30 ?k30 ?a31 ?l31 ?c31 ?k31 ?a32 ?l32 ?c32 ?k32 ?a33 ?l33 ?c33 ?k33 ?a34 ?l34 ?c34 ?k34 ?a35 ?l35 ?c35 ?k35 ?a36 ?l36 ?c36 ?k36 ?a37 ?l37 ?c37 ?k37 ?a38 ?l38 ?c38 ?k38 ?a39 ?l39 ?c39 ?k39 ?a40 ?l40 ?c40 ?k40 ?a41 ?l41 ?c41 ?k41 ?a42 ?l42 ?c42 ?k42 ?a43 ?l43 ?c43 ?k43 ?a44 ?l44 ?c44 ?k44 ?a45 ?l45 ?c45 ?k45 ?a46 ?l46 ?c46 ?k46 ?a47 ?l47 ?c47 ?k47 ?a48 ?l48 ?c48 ?k48 ?aC ?pg ?hd ?po ?sa ?mk ?kc ?n1 ?n2 ?n3 ?dha ?dhn ?dht ?dhm ?dow ?dsf ?dne ?dob ?oNoneType ?qNoneType ?obool ?qbool ?oint ?qint ?ostr ?qstr ?olist ?qlist ?otuple ?qtuple ?vHOUSES ?vMOST_LEAVES ?vMOST_DEPTH ?vMOST_MIXED ?zisinstance ?zint ?zbool ?zlist ?ztuple ?zlen ?zstr ?zmax ?zall ?zrange ?zstaticmethod ?zproperty ?zabs ?zdivmod ?zmin ?zsorted ?zset ?zany ?zrepr ?zzip
    (case aC => k_is)
    (case a0 => k_is)
    (case l0 => k_is)
    (case c0 => k_is)
    (case k0 => k_is)
    (case a1 => k_is)
    (case l1 => k_is)
    (case c1 => k_is)
    (case k1 => k_is)
    (case a2 => k_is)
    (case l2 => k_is)
    (case c2 => k_is)
    (case k2 => k_is)
    (case a3 => k_is)
    (case l3 => k_is)
    (case c3 => k_is)
    (case k3 => k_is)
    (case a4 => k_is)
    (case l4 => k_is)
    (case c4 => k_is)
    (case k4 => k_is)
    (case a5 => k_is)
    (case l5 => k_is)
    (case c5 => k_is)
    (case k5 => k_is)
    (case a6 => k_is)
    (case l6 => k_is)
    (case c6 => k_is)
    (case k6 => k_is)
    (case a7 => k_is)
    (case l7 => k_is)
    (case c7 => k_is)
    (case k7 => k_is)
    (case a8 => k_is)
    (case l8 => k_is)
    (case c8 => k_is)
    (case k8 => k_is)
    (case a9 => k_is)
    (case l9 => k_is)
    (case c9 => k_is)
    (case k9 => k_is)
    (case a10 => k_is)
    (case l10 => k_is)
    (case c10 => k_is)
    (case k10 => k_is)
    (case a11 => k_is)
    (case l11 => k_is)
    (case c11 => k_is)
    (case k11 => k_is)
    (case a12 => k_is)
    (case l12 => k_is)
    (case c12 => k_is)
    (case k12 => k_is)
    (case a13 => k_is)
    (case i13 => k_is)
    (case l13 => k_is)
    (case c13 => k_is)
    (case k13 => k_is)
    (case a14 => k_is)
    (case g14 => k_is)
    (case t14 => k_is)
    (case r14 => k_is)
    (case l14 => k_is)
    (case c14 => k_is)
    (case k14 => k_is)
    (case a15 => k_is)
    (case g15 => k_is)
    (case t15 => k_is)
    (case r15 => k_is)
    (case l15 => k_is)
    (case c15 => k_is)
    (case k15 => k_is)
    (case a16 => k_is)
    (case g16 => k_is)
    (case t16 => k_is)
    (case r16 => k_is)
    (case l16 => k_is)
    (case c16 => k_is)
    (case k16 => k_is)
    (case a17 => k_is)
    (case i17 => k_is)
    (case l17 => k_is)
    (case c17 => k_is)
    (case k17 => k_is)
    (case a18 => k_is)
    (case i18 => k_is)
    (case l18 => k_is)
    (case c18 => k_is)
    (case k18 => k_is)
    (case a19 => k_is)
    (case i19 => k_is)
    (case l19 => k_is)
    (case c19 => k_is)
    (case k19 => k_is)
    (case a20 => k_is)
    (case i20 => k_is)
    (case l20 => k_is)
    (case c20 => k_is)
    (case k20 => k_is)
    (case a21 => k_is)
    (case i21 => k_is)
    (case l21 => k_is)
    (case c21 => k_is)
    (case k21 => k_is)
    (case a22 => k_is)
    (case i22 => k_is)
    (case l22 => k_is)
    (case c22 => k_is)
    (case k22 => k_is)
    (case a23 => k_is)
    (case i23 => k_is)
    (case l23 => k_is)
    (case c23 => k_is)
    (case k23 => k_is)
    (case a24 => k_is)
    (case i24 => k_is)
    (case l24 => k_is)
    (case c24 => k_is)
    (case k24 => k_is)
    (case a25 => k_is)
    (case i25 => k_is)
    (case l25 => k_is)
    (case c25 => k_is)
    (case k25 => k_is)
    (case a26 => k_is)
    (case l26 => k_is)
    (case c26 => k_is)
    (case k26 => k_is)
    (case a27 => k_is)
    (case l27 => k_is)
    (case c27 => k_is)
    (case k27 => k_is)
    (case a28 => k_is)
    (case l28 => k_is)
    (case c28 => k_is)
    (case k28 => k_is)
    (case a29 => k_is)
    (case l29 => k_is)
    (case c29 => k_is)
    (case k29 => k_is)
    (case a30 => k_is)
    (case l30 => k_is)
    (case c30 => k_is)
    (case k30 => k_is)
    (case a31 => k_is)
    (case l31 => k_is)
    (case c31 => k_is)
    (case k31 => k_is)
    (case a32 => k_is)
    (case l32 => k_is)
    (case c32 => k_is)
    (case k32 => k_is)
    (case a33 => k_is)
    (case l33 => k_is)
    (case c33 => k_is)
    (case k33 => k_is)
    (case a34 => k_is)
    (case l34 => k_is)
    (case c34 => k_is)
    (case k34 => k_is)
    (case a35 => k_is)
    (case l35 => k_is)
    (case c35 => k_is)
    (case k35 => k_is)
    (case a36 => k_is)
    (case l36 => k_is)
    (case c36 => k_is)
    (case k36 => k_is)
    (case a37 => k_is)
    (case l37 => k_is)
    (case c37 => k_is)
    (case k37 => k_is)
    (case a38 => k_is)
    (case l38 => k_is)
    (case c38 => k_is)
    (case k38 => k_is)
    (case a39 => k_is)
    (case l39 => k_is)
    (case c39 => k_is)
    (case k39 => k_is)
    (case a40 => k_is)
    (case l40 => k_is)
    (case c40 => k_is)
    (case k40 => k_is)
    (case a41 => k_is)
    (case l41 => k_is)
    (case c41 => k_is)
    (case k41 => k_is)
    (case a42 => k_is)
    (case l42 => k_is)
    (case c42 => k_is)
    (case k42 => k_is)
    (case a43 => k_is)
    (case l43 => k_is)
    (case c43 => k_is)
    (case k43 => k_is)
    (case a44 => k_is)
    (case l44 => k_is)
    (case c44 => k_is)
    (case k44 => k_is)
    (case a45 => k_is)
    (case l45 => k_is)
    (case c45 => k_is)
    (case k45 => k_is)
    (case a46 => k_is)
    (case l46 => k_is)
    (case c46 => k_is)
    (case k46 => k_is)
    (case a47 => k_is)
    (case l47 => k_is)
    (case c47 => k_is)
    (case k47 => k_is)
    (case a48 => k_is)
    (case l48 => k_is)
    (case c48 => k_is)
    (case k48 => k_is)
    (case pg => k_is)
    (case hd => k_is)
    (case po => k_is)
    (case sa => k_is)
    (case mk => k_is)
    (case kc => k_is)
    (case n1 => k_is)
    (case n2 => k_is)
    (case n3 => k_is)
    (case dha => k_is)
    (case dhn => k_is)
    (case dht => k_is)
    (case dhm => k_is)
    (case dow => exact if_pos (beq_self_eq_true _))
    (case dsf => k_is)
    (case dne => k_is)
    (case dob => k_is)
    (case oNoneType => (refine' K31.kit_oth ?ci ?ty ?m6; (case ci => k_is); (case ty => k_is); (case m6 => exact K31.mro6 _ (by simp))))
    (case qNoneType => k_is)
    (case obool => (refine' K31.kit_oth ?ci ?ty ?m6; (case ci => k_is); (case ty => k_is); (case m6 => exact K31.mro6 _ (by simp))))
    (case qbool => k_is)
    (case oint => (refine' K31.kit_oth ?ci ?ty ?m6; (case ci => k_is); (case ty => k_is); (case m6 => exact K31.mro6 _ (by simp))))
    (case qint => k_is)
    (case ostr => (refine' K31.kit_oth ?ci ?ty ?m6; (case ci => k_is); (case ty => k_is); (case m6 => exact K31.mro6 _ (by simp))))
    (case qstr => k_is)
    (case olist => (refine' K31.kit_oth ?ci ?ty ?m6; (case ci => k_is); (case ty => k_is); (case m6 => exact K31.mro6 _ (by simp))))
    (case qlist => k_is)
    (case otuple => (refine' K31.kit_oth ?ci ?ty ?m6; (case ci => k_is); (case ty => k_is); (case m6 => exact K31.mro6 _ (by simp))))
    (case qtuple => k_is)
    (case vHOUSES => k_is)
    (case vMOST_LEAVES => k_is)
    (case vMOST_DEPTH => k_is)
    (case vMOST_MIXED => k_is)
    (case zisinstance => k_is)
    (case zint => k_is)
    (case zbool => k_is)
    (case zlist => k_is)
    (case ztuple => k_is)
    (case zlen => k_is)
    (case zstr => k_is)
    (case zmax => k_is)
    (case zall => k_is)
    (case zrange => k_is)
    (case zstaticmethod => k_is)
    (case zproperty => k_is)
    (case zabs => k_is)
    (case zdivmod => k_is)
    (case zmin => k_is)
    (case zsorted => k_is)
    (case zset => k_is)
    (case zany => k_is)
    (case zrepr => k_is)
    (case zzip => k_is)


