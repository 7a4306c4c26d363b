import PyProof.Rows.All
import Wide.All
import OpenK.AllK
import Wide.FinOn
import HandS.ForMost
import HandS.IsInst
import HandS.Walk
import PyProof.AutoSeq1
import HandS.DictComp
import HandS.Property
import HandS.OwnEq
import HandS.MakeKwOnly
import HandS.ClsMeth
import HandS.Star
import PyProof.InstNe
import HandS.FStr
import HandS.Small
import PyProof.ReprRoads
import PyProof.ReprLen
import PyProof.EqLayable
import HandS.SetFor
import HandS.Strs
import HandS.SortOrd
import HandS.Zip
import KE.SortData
import HandS.WideBits
import HandS.Conv
import HandS.Style
import HandS.RaiseMore
import HandS.Deep
import HandS.Ends
import PyProof.ZipIter
import KE.KStar
import HandS.ListItems
import PySem.Challenge.RW_oneshelf_k32_whole_meetings_and_cuts
set_option Elab.async false
set_option linter.all false
set_option maxRecDepth 100000
/-! data in the abstract heap, apart from a set of addresses that are still worked on -/
namespace Kh
open PySem PySem.Spec PyProof.Rows L2

/-! ### heaps -/
theorem same_new {H : Hp} {p : Addr} {o : HO} (h : H p = none) : Same H (upd H p o) := fun b x e => by
  rw [upd_ne (ne_of_none e h)]; exact e
theorem sup {H H1 : Hp} {p : Addr} {o : HO} (x : Same H H1) (h : H1 p = none) : Same H (upd H1 p o) := x.trans (same_new h)
/-- an object that H doesn't know may change -/
theorem smut {H H1 : Hp} {p : Addr} {o : HO} (x : Same H H1) (h : H p = none) : Same H (upd H1 p o) := fun b u e => by
  rw [upd_ne (ne_of_none e h)]; exact x b u e
theorem same_t {K : PySem.W.Frag} {H H' : Hp} {a : Addr} {xs : List V} (e : Same H H') (h : SqT K H a xs) : SqT K H' a xs := by
  rcases h with (h | ⟨o, h⟩) | h
  · exact .inl (.inl (e _ _ h))
  · exact .inl (.inr ⟨o, e _ _ h⟩)
  · exact .inr h
theorem some_ne {H : Hp} {a : Addr} {o : HO} (h : H a = some o) : H a ≠ none := by rw [h]; exact fun z => nomatch z
theorem same_ne {H H' : Hp} (e : Same H H') {a : Addr} (h : H a ≠ none) : H' a ≠ none := by
  cases q : H a with
  | none => exact (h q).elim
  | some o => rw [e a o q]; exact fun z => nomatch z
theorem sqL {K : PySem.W.Frag} {H : Hp} {a : Addr} {xs : List V} (h : H a = some (.lst xs)) : SqL K H a xs := .inl (.inl h)
theorem sqT {K : PySem.W.Frag} {H : Hp} {a : Addr} {xs : List V} (h : H a = some (.tup xs)) : SqT K H a xs := .inl (.inl h)

mutual
theorem dp_same {K : PySem.W.Frag} {H H' : Hp} (e : Same H H') : ∀ (d : PyData) (v : V), Dp K H v d → Dp K H' v d
  | .none, _, h => by cases h; exact .non
  | .bool b, _, h => by cases h; exact .bl b
  | .int i, _, h => by cases h; exact .int i
  | .str x, _, h => by cases h; exact .str x
  | .list ds, _, h => by
    cases h with
    | lst hs ha => exact .lst (e.seq hs) (dpa_same e ds _ ha)
  | .tuple ds, _, h => by
    cases h with
    | tup hs ha => exact .tup (same_t e hs) (dpa_same e ds _ ha)
  | .dict _, _, h => by cases h
theorem dpa_same {K : PySem.W.Frag} {H H' : Hp} (e : Same H H') : ∀ (ds : List PyData) (vs : List V), DpAll K H vs ds → DpAll K H' vs ds
  | [], _, h => by cases h; exact .nil
  | d :: ds, _, h => by
    cases h with
    | cons h1 h2 => exact .cons (dp_same e d _ h1) (dpa_same e ds _ h2)
end
theorem dpa_len {K : PySem.W.Frag} {H : Hp} : ∀ {vs : List V} {ds : List PyData}, DpAll K H vs ds → vs.length = ds.length
  | _, _, .nil => rfl
  | _, _, .cons _ t => by rw [List.length_cons, List.length_cons, dpa_len t]
theorem dpa_get {K : PySem.W.Frag} {H : Hp} : ∀ {vs : List V} {ds : List PyData} {i : Nat} {d : PyData}, DpAll K H vs ds → ds[i]? = some d → ∃ v, vs[i]? = some v ∧ Dp K H v d
  | _, _, _, _, .nil, e => by simp at e
  | _, _, 0, d, .cons (v := v) h _, e => by simp at e; subst e; exact ⟨v, by simp, h⟩
  | _, _, i + 1, d, .cons _ t, e => by
    obtain ⟨v, h1, h2⟩ := dpa_get (i := i) t (by simpa using e)
    exact ⟨v, by simpa using h1, h2⟩
theorem dpa_at {K : PySem.W.Frag} {H : Hp} : ∀ {vs : List V} {ds : List PyData} {i : Nat} {v : V}, DpAll K H vs ds → vs[i]? = some v → ∃ d, ds[i]? = some d ∧ Dp K H v d
  | _, _, _, _, .nil, e => by simp at e
  | _, _, 0, v, .cons (d := d) h _, e => by simp at e; subst e; exact ⟨d, by simp, h⟩
  | _, _, i + 1, v, .cons _ t, e => by
    obtain ⟨d, h1, h2⟩ := dpa_at (i := i) t (by simpa using e)
    exact ⟨d, by simpa using h1, h2⟩
theorem dpa_app {K : PySem.W.Frag} {H : Hp} : ∀ {vs ws : List V} {ds es : List PyData}, DpAll K H vs ds → DpAll K H ws es → DpAll K H (vs ++ ws) (ds ++ es)
  | _, _, _, _, .nil, t => t
  | _, _, _, _, .cons h s, t => .cons h (dpa_app s t)
theorem dpa_of {K : PySem.W.Frag} {H : Hp} : ∀ {vs : List V} {ds : List PyData}, vs.length = ds.length → (∀ (i : Nat) v d, vs[i]? = some v → ds[i]? = some d → Dp K H v d) → DpAll K H vs ds
  | [], [], _, _ => .nil
  | v :: vs, d :: ds, l, h => .cons (h 0 v d rfl rfl) (dpa_of (by simpa using l) fun i a b h1 h2 => h (i + 1) a b (by simpa using h1) (by simpa using h2))
  | [], _ :: _, l, _ => by simp at l
  | _ :: _, [], l, _ => by simp at l

/-! ### the heap without some addresses -/
open Classical in
noncomputable def off (S : Addr → Prop) (H : Hp) : Hp := fun a => if S a then none else H a
/-- all of S is known -/
def Kn (S : Addr → Prop) (H : Hp) : Prop := ∀ a, S a → H a ≠ none
theorem off_out {S : Addr → Prop} {H : Hp} {a : Addr} (h : ¬ S a) : off S H a = H a := by unfold off; rw [if_neg h]
theorem off_in {S : Addr → Prop} {H : Hp} {a : Addr} (h : S a) : off S H a = none := by unfold off; rw [if_pos h]
theorem off_some {S : Addr → Prop} {H : Hp} {a : Addr} {o : HO} (h : off S H a = some o) : ¬ S a ∧ H a = some o := by
  by_cases q : S a
  · rw [off_in q] at h; cases h
  · rw [off_out q] at h; exact ⟨q, h⟩
theorem off_sub {S : Addr → Prop} {H : Hp} : Same (off S H) H := fun _ _ e => (off_some e).2
theorem off_same {S : Addr → Prop} {H H' : Hp} (e : Same H H') : Same (off S H) (off S H') := fun a o h => by
  obtain ⟨n, h⟩ := off_some h
  rw [off_out n]; exact e a o h
theorem off_less {S S' : Addr → Prop} {H : Hp} (h : ∀ a, S a → S' a) : Same (off S' H) (off S H) := fun a o e => by
  obtain ⟨n, e⟩ := off_some e
  rw [off_out fun z => n (h a z)]; exact e
theorem off_mut {S : Addr → Prop} {H : Hp} {a : Addr} {o : HO} (h : S a) : off S (upd H a o) = off S H := by
  funext b
  by_cases q : S b
  · rw [off_in q, off_in q]
  · rw [off_out q, off_out q, upd_ne]; rintro rfl; exact q h
theorem Kn.same {S : Addr → Prop} {H H' : Hp} (k : Kn S H) (e : Same H H') : Kn S H' := fun a h => same_ne e (k a h)
theorem Kn.new {S : Addr → Prop} {H : Hp} (k : Kn S H) {a : Addr} (h : H a = none) : ¬ S a := fun z => k a z h
theorem Kn.upd {S : Addr → Prop} {H : Hp} (k : Kn S H) {a : Addr} {o : HO} : Kn S (upd H a o) := fun b h => by
  by_cases q : b = a
  · subst q; rw [upd_same]; exact fun z => nomatch z
  · rw [upd_ne q]; exact k b h
/-- one more -/
def plus (S : Addr → Prop) (a : Addr) : Addr → Prop := fun b => S b ∨ b = a
theorem Kn.plus {S : Addr → Prop} {H : Hp} (k : Kn S H) {a : Addr} (h : H a ≠ none) : Kn (plus S a) H := fun b z => by
  rcases z with z | rfl
  · exact k b z
  · exact h
def noS : Addr → Prop := fun _ => False
theorem kn_no {H : Hp} : Kn noS H := fun _ h => h.elim
theorem off_no {H : Hp} : off noS H = H := by funext a; exact off_out fun h => h.elim
end Kh

set_option maxRecDepth 100000
set_option maxHeartbeats 1000000
/-! comprehensions read as wholes; calls of defs that only make new things -/
namespace Kh
open PySem PySem.Spec PyProof.Rows L2

/-- either way of walking -/
theorem pi_or {X : Cx} {tg e : Expr} {w1 w2 : TI} (h1 : PI X tg e w1) (h2 : PI X tg e w2) : PI X tg e (fun σ H R => w1 σ H R ∨ w2 σ H R) :=
  ⟨fun pins s σ H R I h => h.elim (h1.run pins s σ H R I) (h2.run pins s σ H R I)⟩
theorem pe_alt {X : Cx} {e : Expr} {t u : TE} (h1 : PE X e t) (h2 : PE X e u) : PE X e (fun σ H Q => t σ H Q ∨ u σ H Q) :=
  ⟨fun pins s σ H Q I h => h.elim (h1.run pins s σ H Q I) (h2.run pins s σ H Q I)⟩
/-- a list or a tuple -/
theorem pi_any {X : Cx} {tg e : Expr} {t : TE} (h : PE X e t) : PI X tg e (fun σ H R => iList X.K t σ H R ∨ iTup X.K t σ H R) := pi_or (pi_list h) (pi_tup h)

/-- grown but for what stands at D -/
def SameBut (D : Addr) (H H' : Hp) : Prop := ∀ b o, b ≠ D → H b = some o → H' b = some o
theorem sbut {D : Addr} {H H' : Hp} (e : Same H H') : SameBut D H H' := fun b o _ h => e b o h
theorem bmut {D : Addr} {H H' : Hp} {o : HO} (e : SameBut D H H') : SameBut D H (upd H' D o) := fun b u n h => by rw [upd_ne n]; exact e b u n h
theorem off_but {S : Addr → Prop} {D : Addr} {H H' : Hp} (e : SameBut D H H') : Same (off (plus S D) H) (off (plus S D) H') := fun b o h => by
  obtain ⟨n, h⟩ := off_some h
  rw [off_out n]
  exact e b o (fun z => n (.inr z)) h

theorem paired_app {α β : Type} {F : α → β → Prop} : ∀ {l l2 : List α} {m m2 : List β}, Paired F l m → Paired F l2 m2 → Paired F (l ++ l2) (m ++ m2)
  | _, _, _, _, .nil, q => q
  | _, _, _, _, .cons r t, q => .cons r (paired_app t q)
section
variable {J : It} {n : Nat} {G : Hp → Prop} {Y : Nat → Hp → V → Hp → Prop} {te : TE} {tt : TT} {sl : Nat} {vs : List Nat} {σ : L2.St} {H1 : Hp} {D : Addr} {Qd : Hp → Prop}

theorem lc_filt (w : Walk J n G Y) (Xp : Nat → V → Prop) (hY : ∀ i H x H', i < n → Y i H x H' → H' = H ∧ Xp i x) (pt : Nat → Bool) (P : Nat → V → Hp → Prop)
    (hG : ∀ H, Same H1 H → G H) (hD : H1 D = none) (hn : n ≤ 100000) (hw : ∀ x, wipe ((wipe σ vs).set sl (some x)) vs = wipe σ vs)
    (hP : ∀ j y H H', SameBut D H H' → P j y H → P j y H')
    (test : ∀ j x H, j < n → Xp j x → Same H1 H → H D ≠ none → ∀ Q : Bool → Hp → Prop, (∀ H', Same H H' → Q (pt j) H') → tt ((wipe σ vs).set sl (some x)) H Q)
    (body : ∀ j x H, j < n → Xp j x → pt j = true → Same H1 H → H D ≠ none → ∀ Q : VK, (∀ y H', Same H H' → P j y H' → Q y H') → te ((wipe σ vs).set sl (some x)) H Q)
    (done : ∀ ys H, Paired (fun j y => P j y H) ((List.range n).filter pt) ys → Same H1 H → H D = some (.lst ys) → Qd H) :
    ∃ W : Nat → Nat → Hp → Prop, (∃ m, W 0 m (upd H1 D (.lst []))) ∧ ∀ i m H, W i m H →
      (J.stop i H ∧ Qd H) ∨ (J.go i H ∧ ∃ Nx : Hp → Prop, (∀ H', Nx H' → ∃ m', m' < m ∧ W (i + 1) m' H') ∧ ∀ x H', J.yld i H x H' → gName sl x (wipe σ vs) H' fun σ2 H2 => wipe σ2 vs = wipe σ vs ∧ tt σ2 H2 fun b H3 =>
        if b = true then te σ2 H3 fun y H4 => ∃ acc, H4 D = some (.lst acc) ∧ acc.length < sizeLine ∧ Nx (upd H4 D (.lst (acc ++ [y]))) else Nx H3) := by
  have mono : ∀ {l : List Nat} {ys : List V} {H H' : Hp}, SameBut D H H' → Paired (fun j y => P j y H) l ys → Paired (fun j y => P j y H') l ys := fun e p => Paired.mapP p fun a b q => hP a b _ _ e q
  have lenP : ∀ {l : List Nat} {ys : List V} {H : Hp}, Paired (fun j y => P j y H) l ys → l.length = ys.length := fun p => Paired.length p
  refine lc_it w (Pv := fun i H => ∃ ys, Paired (fun j y => P j y H) ((List.range i).filter pt) ys ∧ Same H1 H ∧ H D = some (.lst ys)) ⟨[], .nil, same_new hD, upd_same⟩ (fun i H _ ⟨_, _, s, _⟩ => hG H s) ?_ ?_
  · rintro i x H H' hi ⟨ys, py, s, hd⟩ y
    obtain ⟨rfl, xp⟩ := hY i H x H' hi y
    refine ⟨hw x, test i x H' hi xp s (some_ne hd) _ fun H2 s2 => ?_⟩
    have e : (List.range (i + 1)).filter pt = (List.range i).filter pt ++ (if pt i then [i] else []) := by
      rw [List.range_succ, List.filter_append]
      congr 1
      cases q : pt i <;> simp [q]
    cases hb : pt i with
    | true =>
      refine iteT (body i x H2 hi xp hb (s.trans s2) (some_ne (s2 _ _ hd)) _ fun z H3 s3 pz => ?_)
      have h3 := s3 _ _ (s2 _ _ hd)
      have hl : ys.length ≤ i := by
        rw [← lenP py]
        exact Nat.le_trans (List.length_filter_le _ _) (by simp)
      refine ⟨ys, h3, Nat.lt_of_le_of_lt (show ys.length ≤ 100000 by omega) (by decide), ys ++ [z], ?_, smut ((s.trans s2).trans s3) hD, upd_same⟩
      rw [e, hb]
      exact paired_app (mono ((bmut (sbut (s2.trans s3)))) py) (.cons (hP _ _ _ _ ((bmut (sbut (Same.refl _)))) pz) .nil)
    | false =>
      refine iteF ⟨ys, ?_, s.trans s2, s2 _ _ hd⟩
      rw [e, hb]
      simpa using mono (sbut s2) py
  · rintro H ⟨ys, py, s, hd⟩
    exact done ys H py s hd

theorem lc_map (w : Walk J n G Y) (Xp : Nat → V → Prop) (hY : ∀ i H x H', i < n → Y i H x H' → H' = H ∧ Xp i x) (P : Nat → V → Hp → Prop)
    (hG : ∀ H, Same H1 H → G H) (hD : H1 D = none) (hn : n ≤ 100000) (hw : ∀ x, wipe ((wipe σ vs).set sl (some x)) vs = wipe σ vs)
    (hP : ∀ j y H H', SameBut D H H' → P j y H → P j y H')
    (body : ∀ j x H, j < n → Xp j x → Same H1 H → H D ≠ none → ∀ Q : VK, (∀ y H', Same H H' → P j y H' → Q y H') → te ((wipe σ vs).set sl (some x)) H Q)
    (done : ∀ ys H, ys.length = n → (∀ j y, ys[j]? = some y → P j y H) → Same H1 H → H D = some (.lst ys) → Qd H) :
    ∃ W : Nat → Nat → Hp → Prop, (∃ m, W 0 m (upd H1 D (.lst []))) ∧ ∀ i m H, W i m H →
      (J.stop i H ∧ Qd H) ∨ (J.go i H ∧ ∃ Nx : Hp → Prop, (∀ H', Nx H' → ∃ m', m' < m ∧ W (i + 1) m' H') ∧ ∀ x H', J.yld i H x H' → gName sl x (wipe σ vs) H' fun σ2 H2 => wipe σ2 vs = wipe σ vs ∧ tYes σ2 H2 fun b H3 =>
        if b = true then te σ2 H3 fun y H4 => ∃ acc, H4 D = some (.lst acc) ∧ acc.length < sizeLine ∧ Nx (upd H4 D (.lst (acc ++ [y]))) else Nx H3) := by
  refine lc_it w (Pv := fun i H => ∃ ys, ys.length = i ∧ (∀ j y, ys[j]? = some y → P j y H) ∧ Same H1 H ∧ H D = some (.lst ys)) ⟨[], rfl, fun j y h => by simp at h, same_new hD, upd_same⟩ (fun i H _ ⟨_, _, _, s, _⟩ => hG H s) ?_ ?_
  · rintro i x H H' hi ⟨ys, hl, py, s, hd⟩ y
    obtain ⟨rfl, xp⟩ := hY i H x H' hi y
    refine ⟨hw x, iteT (B := Exists fun zs : List V => zs.length = i + 1 ∧ (∀ (j : Nat) (y : V), zs[j]? = some y → P j y H') ∧ Same H1 H' ∧ H' D = some (HO.lst zs)) ?_⟩
    refine body i x H' hi xp s (some_ne hd) _ fun z H3 s3 pz => ⟨ys, s3 _ _ hd, Nat.lt_of_le_of_lt (show ys.length ≤ 100000 by omega) (by decide), ys ++ [z], by simp [hl], fun j u hj => ?_, smut (s.trans s3) hD, upd_same⟩
    by_cases q : j < ys.length
    · rw [List.getElem?_append_left q] at hj
      exact hP _ _ _ _ ((bmut (sbut s3))) (py j u hj)
    · rw [List.getElem?_append_right (by omega)] at hj
      have e : j = i := by
        by_cases q2 : j - ys.length = 0
        · omega
        · rw [List.getElem?_eq_none_iff.mpr (by simp; omega)] at hj
          cases hj
      subst e
      rw [show j - ys.length = 0 by omega] at hj
      cases hj
      exact hP _ _ _ _ ((bmut (sbut (Same.refl _)))) pz
  · rintro H ⟨ys, hl, py, s, hd⟩
    exact done ys H hl py s hd
end

/-! ### promises over data -/
/-- a def of data that makes new data: of x, under pre, f x; what is in S stays out of it -/
def spP {α : Type} (K : PySem.W.Frag) (enc : α → List PyData) (pre : α → Prop) (f : α → PyData) : Sp := fun vs H Q _ => ∃ (S : Addr → Prop) (x : α), Kn S H ∧ DpAll K (off S H) vs (enc x) ∧ pre x ∧
  ∀ v H', Same H H' → Dp K (off S H') v (f x) → Q v H'
section
variable {α : Type} {K : PySem.W.Frag} {enc : α → List PyData} {pre : α → Prop} {f : α → PyData} {vs : List V} {H : Hp} {Q : VK} {E : XK}
theorem spP_len {n : Nat} (hn : ∀ x, (enc x).length = n) (h : spP K enc pre f vs H Q E) : vs.length = n := by
  obtain ⟨S, x, _, hd, _⟩ := h
  rw [← hn x]; exact dpa_len hd
/-- it is called, the answer flat -/
theorem spP_bl {b : Bool} {H0 : Hp} (e : Same H0 H) (x : α) (hd : DpAll K H0 vs (enc x)) (hp : pre x) (hf : f x = .bool b) (q : ∀ H', Same H H' → Q (.bl b) H') : spP K enc pre f vs H Q E := ⟨noS, x, kn_no, by rw [off_no]; exact dpa_same e _ _ hd, hp, fun v H' s h => by
  rw [hf] at h; cases h; exact q H' s⟩
theorem spP_int {b : Int} {H0 : Hp} (e : Same H0 H) (x : α) (hd : DpAll K H0 vs (enc x)) (hp : pre x) (hf : f x = .int b) (q : ∀ H', Same H H' → Q (.int b) H') : spP K enc pre f vs H Q E := ⟨noS, x, kn_no, by rw [off_no]; exact dpa_same e _ _ hd, hp, fun v H' s h => by
  rw [hf] at h; cases h; exact q H' s⟩
end
def d1 (d : PyData) : List PyData := [d]

/-! ### kinds of data -/
def tyN : PyData → String
  | .none => "NoneType"
  | .bool _ => "bool"
  | .int _ => "int"
  | .str _ => "str"
  | .list _ => "list"
  | .tuple _ => "tuple"
  | .dict _ => "dict"
end Kh

set_option maxRecDepth 100000
set_option maxHeartbeats 1000000
/-! operations on data -/
namespace Kh
open PySem PySem.Spec PyProof.Rows L2

theorem sq_ty {K : PySem.W.Frag} {H : Hp} {a : Addr} {xs : List V} (h : SqL K H a xs) : TyX K H (.ref a) (.type "list") := by
  rcases h with (h | ⟨o, h⟩) | ⟨o, its, n, h1, h2, _⟩
  · exact .base (.lst h)
  · exact .base (.frz h)
  · exact .kList h1 h2
theorem sqt_ty {K : PySem.W.Frag} {H : Hp} {a : Addr} {xs : List V} (h : SqT K H a xs) : TyX K H (.ref a) (.type "tuple") := by
  rcases h with (h | ⟨o, h⟩) | ⟨o, its, n, h1, h2, _⟩
  · exact .base (.tup h)
  · exact .fTuple h
  · exact .kTuple h1 h2
theorem tyx_d {K : PySem.W.Frag} {H : Hp} {v : V} {d : PyData} (h : Dp K H v d) : TyX K H v (.type (tyN d)) := by
  cases h with
  | non => exact .base .non
  | bl b => exact .base (.bl b)
  | int i => exact .base (.int i)
  | str x => exact .base (.str x)
  | lst hs _ => exact sq_ty hs
  | tup hs _ => exact sqt_ty hs
/-- isinstance(x, T) of data -/
theorem isi_d {K : PySem.W.Frag} {H0 H : Hp} {v : V} {d : PyData} {n : String} {b : Bool} {Q : VK} (e : Same H0 H) (h : Dp K H0 v d) (hk : kitB (tyN d) n = some b) (q : Q (.bl b) H) : rIsi K [v, .ty n] H Q :=
  ⟨v, .ty n, _, _, b, rfl, .ty n, tyx_d (dp_same e _ _ h), kit_ty hk, q⟩
theorem isi2_d {K : PySem.W.Frag} {H0 H : Hp} {v : V} {d : PyData} {n m : String} {b c : Bool} {Q : VK} {p : Addr} (e : Same H0 H) (h : Dp K H0 v d) (hp : H p = some (.tup [.ty n, .ty m])) (hk : kitB (tyN d) n = some b) (hc : kitB (tyN d) m = some c) (q : Q (.bl (b || c)) H) : rIsiT K [v, .ref p] H Q := by
  refine ⟨v, p, [.ty n, .ty m], .type (tyN d), [.type n, .type m], b || c, rfl, hp, .cons (.ty n) (.cons (.ty m) .nil), tyx_d (dp_same e _ _ h), ?_, q⟩
  refine kitAny_cons (kit_ty hk) (fun hb => ?_) (fun hb => by rw [hb]; rfl)
  refine kitAny_cons (kit_ty hc) (fun hd => ?_) (fun hd => by rw [hd]; cases b <;> rfl)
  rw [hb, hd]; exact kitAny_nil

/-- what a list or a tuple has -/
def items : PyData → Option (List PyData)
  | .list ds => some ds
  | .tuple ds => some ds
  | _ => none
theorem items_at {K : PySem.W.Frag} {H : Hp} {v : V} {d : PyData} {ds : List PyData} (h : Dp K H v d) (e : items d = some ds) : ∃ a xs, v = .ref a ∧ (SqL K H a xs ∨ SqT K H a xs) ∧ DpAll K H xs ds := by
  cases h with
  | non => cases e
  | bl b => cases e
  | int i => cases e
  | str x => cases e
  | lst hs ha => cases e; exact ⟨_, _, rfl, .inl hs, ha⟩
  | tup hs ha => cases e; exact ⟨_, _, rfl, .inr hs, ha⟩
theorem list_at {K : PySem.W.Frag} {H : Hp} {v : V} {ds : List PyData} (h : Dp K H v (.list ds)) : ∃ a xs, v = .ref a ∧ SqL K H a xs ∧ DpAll K H xs ds := by
  cases h with
  | lst hs ha => exact ⟨_, _, rfl, hs, ha⟩
theorem tup_at {K : PySem.W.Frag} {H : Hp} {v : V} {ds : List PyData} (h : Dp K H v (.tuple ds)) : ∃ a xs, v = .ref a ∧ SqT K H a xs ∧ DpAll K H xs ds := by
  cases h with
  | tup hs ha => exact ⟨_, _, rfl, hs, ha⟩
/-- x[i] of data, i written -/
theorem ix_d {K : PySem.W.Frag} {H0 H : Hp} {v : V} {d x : PyData} {ds : List PyData} {i : Nat} {Q : VK} (e : Same H0 H) (h : Dp K H0 v d) (hd : items d = some ds) (hi : ds[i]? = some x) (q : ∀ u, Dp K H0 u x → Q u H) : rIx K v (.int (i : Nat)) H Q := by
  obtain ⟨a, xs, rfl, hs, ha⟩ := items_at h hd
  obtain ⟨u, hu, du⟩ := dpa_get ha hi
  rcases hs with hs | hs
  · exact .inl ⟨a, xs, i, u, rfl, rfl, e.seq hs, atI_nat hu, q u du⟩
  · exact .inr (.inl ⟨a, xs, i, u, rfl, rfl, same_t e hs, atI_nat hu, q u du⟩)
def rLen (K : PySem.W.Frag) : List V → Hp → VK → Prop := fun xs H Q => ∃ p ys, xs = [.ref p] ∧ (SqL K H p ys ∨ SqT K H p ys) ∧ Q (.int ys.length) H
theorem len_d {K : PySem.W.Frag} {H0 H : Hp} {v : V} {d : PyData} {ds : List PyData} {Q : VK} (e : Same H0 H) (h : Dp K H0 v d) (hd : items d = some ds) (q : Q (.int (ds.length : Nat)) H) : rLen K [v] H Q := by
  obtain ⟨a, xs, rfl, hs, ha⟩ := items_at h hd
  refine ⟨a, xs, rfl, hs.imp (fun z => e.seq z) (fun z => same_t e z), ?_⟩
  rw [dpa_len ha]; exact q

/-! ### whole numbers -/
def iD (n : Nat) : PyData := .int n
theorem dpa_ints {K : PySem.W.Frag} {H : Hp} : ∀ {ns : List Int} {vs : List V}, DpAll K H vs (ns.map PyData.int) → vs = ns.map V.int
  | [], _, h => by cases h; rfl
  | n :: ns, _, h => by
    cases h with
    | cons h1 h2 => cases h1; rw [dpa_ints h2]; rfl
theorem ints_dpa {K : PySem.W.Frag} {H : Hp} : ∀ ns : List Int, DpAll K H (ns.map V.int) (ns.map PyData.int)
  | [] => .nil
  | n :: ns => .cons (.int n) (ints_dpa ns)
theorem flat_ints : ∀ ns : List Int, (ns.map V.int).all flatV = true
  | [] => rfl
  | n :: ns => by rw [List.map_cons, List.all_cons, flat_ints ns]; rfl
theorem inV_ints (n : Int) : ∀ ns : List Int, inV (.int n) (ns.map V.int) = decide (n ∈ ns)
  | [] => by simp [inV]
  | m :: ns => by
    have ih := inV_ints n ns
    unfold inV at ih ⊢
    rw [List.map_cons, List.any_cons, ih]
    show ((m == n) || decide (n ∈ ns)) = decide (n ∈ m :: ns)
    by_cases q : m = n
    · subst q; simp
    · have q2 : ¬ n = m := fun z => q z.symm
      rw [show (m == n) = false from beq_eq_false_iff_ne.mpr q]
      simp [q2]
/-- n in xs, n not in xs -/
theorem in_d {K : PySem.W.Frag} {H0 H : Hp} {v : V} {d : PyData} {ns : List Int} {n : Int} {Q : VK} {neg : Bool} (e : Same H0 H) (h : Dp K H0 v d) (hd : items d = some (ns.map PyData.int)) (q : Q (.bl (if neg then !decide (n ∈ ns) else decide (n ∈ ns))) H) : rIn K neg (.int n) v H Q := by
  obtain ⟨a, xs, rfl, hs, ha⟩ := items_at h hd
  have ex := dpa_ints ha
  subst ex
  refine ⟨a, _, rfl, hs.imp (fun z => e.seq z) (fun z => same_t e z), rfl, flat_ints ns, ?_⟩
  rw [inV_ints]; exact q

/-! ### built-ins by names of their own -/
section
variable {X : Cx}
theorem call_lenR : CallR X (.builtin "len") (rLen X.K) := call_len_seq
def rTupOf (K : PySem.W.Frag) : List V → Hp → VK → Prop := fun xs H Q => ∃ p ys, xs = [.ref p] ∧ ((SqL K H p ys ∧ ∀ l, H l = none → Q (.ref l) (upd H l (.tup ys))) ∨ (SqT K H p ys ∧ Q (.ref p) H))
theorem call_tupR : CallR X (.type "tuple") (rTupOf X.K) := call_tuple_of
def rListOf (K : PySem.W.Frag) : List V → Hp → VK → Prop := fun xs H Q => ∃ p ys, xs = [.ref p] ∧ (SqL K H p ys ∨ SqT K H p ys) ∧ ∀ l, H l = none → Q (.ref l) (upd H l (.lst ys))
theorem call_listR : CallR X (.type "list") (rListOf X.K) := call_list_of
def rAbs : List V → Hp → VK → Prop := fun xs H Q => ∃ i, xs = [.int i] ∧ Q (.int (if i < 0 then -i else i)) H
theorem call_absR : CallR X (.builtin "abs") rAbs := call_abs
def rMax2 : List V → Hp → VK → Prop := fun xs H Q => ∃ i j, xs = [.int i, .int j] ∧ Q (.int (if j > i then j else i)) H
theorem call_max2R (hc : X.calm = true) : CallR X (.builtin "max") rMax2 := call_max2 hc
def rMin2 : List V → Hp → VK → Prop := fun xs H Q => ∃ i j, xs = [.int i, .int j] ∧ Q (.int (if j < i then j else i)) H
theorem call_min2R (hc : X.calm = true) : CallR X (.builtin "min") rMin2 := call_min2 hc
def rInt1 : List V → Hp → VK → Prop := fun xs H Q => (∃ i, xs = [.int i] ∧ Q (.int i) H) ∨ ∃ k, xs = [.bl k] ∧ Q (.int (if k then 1 else 0)) H
theorem call_int1R : CallR X (.type "int") rInt1 := call_int1
end
theorem dpa_bools {K : PySem.W.Frag} {H : Hp} : ∀ {ns : List Bool} {vs : List V}, DpAll K H vs (ns.map PyData.bool) → vs = ns.map V.bl
  | [], _, h => by cases h; rfl
  | n :: ns, _, h => by
    cases h with
    | cons h1 h2 => cases h1; rw [dpa_bools h2]; rfl
theorem all_d {K : PySem.W.Frag} {H0 H : Hp} {v : V} {bs : List Bool} {Q : VK} (e : Same H0 H) (h : Dp K H0 v (.list (bs.map PyData.bool))) (q : Q (.bl (bs.all id)) H) : rAll K [v] H Q := by
  obtain ⟨a, xs, rfl, hs, ha⟩ := list_at h
  have ex := dpa_bools ha
  subst ex
  exact ⟨a, bs, rfl, e.seq hs, q⟩
theorem any_d {K : PySem.W.Frag} {H0 H : Hp} {v : V} {bs : List Bool} {Q : VK} (e : Same H0 H) (h : Dp K H0 v (.list (bs.map PyData.bool))) (q : Q (.bl (bs.any id)) H) : rAny K [v] H Q := by
  obtain ⟨a, xs, rfl, hs, ha⟩ := list_at h
  have ex := dpa_bools ha
  subst ex
  exact ⟨a, bs, rfl, e.seq hs, q⟩
theorem max_d {K : PySem.W.Frag} {H0 H : Hp} {v : V} {ns : List Int} {Q : VK} (e : Same H0 H) (h : Dp K H0 v (.list (ns.map PyData.int))) (hn : 0 < ns.length) (q : ∀ m, m ∈ ns → (∀ y, y ∈ ns → y ≤ m) → Q (.int m) H) : rMax K [v] H Q := by
  obtain ⟨a, xs, rfl, hs, ha⟩ := list_at h
  have ex := dpa_ints ha
  subst ex
  exact ⟨a, ns, rfl, e.seq hs, hn, q⟩
theorem tup_d {K : PySem.W.Frag} {S : Addr → Prop} {H : Hp} {v : V} {d : PyData} {ds : List PyData} {Q : VK} (kn : Kn S H) (h : Dp K (off S H) v d) (hd : items d = some ds) (q : ∀ u H', Same H H' → Dp K (off S H') u (.tuple ds) → Q u H') : rTupOf K [v] H Q := by
  cases h with
  | non => cases hd
  | bl b => cases hd
  | int i => cases hd
  | str x => cases hd
  | lst hs ha =>
    cases hd
    exact ⟨_, _, rfl, .inl ⟨off_sub.seq hs, fun l hl => q _ _ (same_new hl) (.tup (sqT (by rw [off_out (kn.new hl)]; exact upd_same)) (dpa_same (off_same (same_new hl)) _ _ ha))⟩⟩
  | tup hs ha =>
    cases hd
    exact ⟨_, _, rfl, .inr ⟨same_t off_sub hs, q _ _ (Same.refl H) (.tup hs ha)⟩⟩
theorem list_d {K : PySem.W.Frag} {S : Addr → Prop} {H : Hp} {v : V} {d : PyData} {ds : List PyData} {Q : VK} (kn : Kn S H) (h : Dp K (off S H) v d) (hd : items d = some ds) (q : ∀ l xs, H l = none → DpAll K (off S H) xs ds → Dp K (off S (upd H l (.lst xs))) (.ref l) (.list ds) → Q (.ref l) (upd H l (.lst xs))) : rListOf K [v] H Q := by
  obtain ⟨a, xs, rfl, hs, ha⟩ := items_at h hd
  refine ⟨a, xs, rfl, hs.imp (fun z => off_sub.seq z) (fun z => same_t off_sub z), fun l hl => q l xs hl ha ?_⟩
  exact .lst (sqL (by rw [off_out (kn.new hl)]; exact upd_same)) (dpa_same (off_same (same_new hl)) _ _ ha)
end Kh

set_option maxRecDepth 100000
/-! trees: the mathematics -/
namespace Kh
open PySem
inductive T where
  | leaf (n : Nat)
  | gate (b : Bool) (k : Nat) (ps : List T)
theorem T.ind {P : T → Prop} (hl : ∀ n, P (.leaf n)) (hg : ∀ b k ps, (∀ p ∈ ps, P p) → P (.gate b k ps)) : ∀ t, P t := fun t =>
  T.rec (motive_1 := P) (motive_2 := fun ps => ∀ p ∈ ps, P p) hl (fun b k ps h => hg b k ps h) (fun p h => nomatch h) (fun t ts h1 h2 p hp => by
    rcases List.mem_cons.mp hp with rfl | hp
    · exact h1
    · exact h2 p hp) t
def sq (b : Bool) (ds : List PyData) : PyData := if b then .tuple ds else .list ds
theorem items_sq (b : Bool) (ds : List PyData) : items (sq b ds) = some ds := by cases b <;> rfl
mutual
def tD : T → PyData
  | .leaf n => .int (n : Nat)
  | .gate b k ps => .tuple [.str "of", .int (k : Nat), sq b (tDs ps)]
def tDs : List T → List PyData
  | [] => []
  | p :: ps => tD p :: tDs ps
end
mutual
def lv : T → List Nat
  | .leaf n => [n]
  | .gate _ _ ps => lvs ps
def lvs : List T → List Nat
  | [] => []
  | p :: ps => lv p ++ lvs ps
end
mutual
def dep : T → Nat
  | .leaf _ => 0
  | .gate _ _ ps => 1 + deps ps
def deps : List T → Nat
  | [] => 0
  | p :: ps => max (dep p) (deps ps)
end
mutual
def siz : T → Nat
  | .leaf _ => 1
  | .gate _ _ ps => 1 + sizs ps
def sizs : List T → Nat
  | [] => 0
  | p :: ps => siz p + sizs ps
end
mutual
/-- all parts told by tuples (true), by lists (false) -/
def flg (c : Bool) : T → T
  | .leaf n => .leaf n
  | .gate _ k ps => .gate c k (flgs c ps)
def flgs (c : Bool) : List T → List T
  | [] => []
  | p :: ps => flg c p :: flgs c ps
end
mutual
/-- the contrary, its parts lists -/
def con : T → T
  | .leaf n => .leaf n
  | .gate _ k ps => .gate false (ps.length + 1 - k) (cons_ ps)
def cons_ : List T → List T
  | [] => []
  | p :: ps => con p :: cons_ ps
end
mutual
def st (s : List Nat) : T → Bool
  | .leaf n => decide (n ∈ s)
  | .gate _ k ps => decide (k ≤ sts s ps)
def sts (s : List Nat) : List T → Nat
  | [] => 0
  | p :: ps => (if st s p then 1 else 0) + sts s ps
end
mutual
def Wf : T → Prop
  | .leaf n => n < 24
  | .gate _ k ps => 1 ≤ k ∧ k ≤ ps.length ∧ Wfs ps
def Wfs : List T → Prop
  | [] => True
  | p :: ps => Wf p ∧ Wfs ps
end
theorem tDs_map : ∀ ps : List T, tDs ps = ps.map tD
  | [] => by simp [tDs]
  | p :: ps => by simp [tDs, tDs_map ps]
theorem lvs_map : ∀ ps : List T, lvs ps = ps.flatMap lv
  | [] => by simp [lvs]
  | p :: ps => by simp [lvs, lvs_map ps]
theorem flgs_map (c : Bool) : ∀ ps : List T, flgs c ps = ps.map (flg c)
  | [] => by simp [flgs]
  | p :: ps => by simp [flgs, flgs_map c ps]
theorem cons_map : ∀ ps : List T, cons_ ps = ps.map con
  | [] => by simp [cons_]
  | p :: ps => by simp [cons_, cons_map ps]
theorem sts_filter (s : List Nat) : ∀ ps : List T, sts s ps = (ps.filter (st s)).length
  | [] => by simp [sts]
  | p :: ps => by
    rw [sts, sts_filter s ps, List.filter_cons]
    cases st s p <;> simp [Nat.add_comm]
theorem wfs_all : ∀ ps : List T, Wfs ps ↔ ∀ p ∈ ps, Wf p
  | [] => by simp [Wfs]
  | p :: ps => by simp [Wfs, wfs_all ps]
theorem deps_le {d : Nat} : ∀ ps : List T, deps ps ≤ d ↔ ∀ p ∈ ps, dep p ≤ d
  | [] => by simp [deps]
  | p :: ps => by simp [deps, deps_le ps, Nat.max_le]
theorem tD_gate (b : Bool) (k : Nat) (ps : List T) : tD (.gate b k ps) = .tuple [.str "of", .int (k : Nat), sq b (ps.map tD)] := by rw [tD, tDs_map]
theorem lv_gate (b : Bool) (k : Nat) (ps : List T) : lv (.gate b k ps) = ps.flatMap lv := by rw [lv, lvs_map]
theorem flg_gate (c b : Bool) (k : Nat) (ps : List T) : flg c (.gate b k ps) = .gate c k (ps.map (flg c)) := by rw [flg, flgs_map]
theorem con_gate (b : Bool) (k : Nat) (ps : List T) : con (.gate b k ps) = .gate false (ps.length + 1 - k) (ps.map con) := by rw [con, cons_map]
theorem st_gate (s : List Nat) (b : Bool) (k : Nat) (ps : List T) : st s (.gate b k ps) = decide (k ≤ (ps.filter (st s)).length) := by rw [st, sts_filter]
theorem wf_gate (b : Bool) (k : Nat) (ps : List T) : Wf (.gate b k ps) ↔ 1 ≤ k ∧ k ≤ ps.length ∧ ∀ p ∈ ps, Wf p := by rw [Wf, wfs_all]
theorem dep_gate {d : Nat} (b : Bool) (k : Nat) (ps : List T) : dep (.gate b k ps) ≤ d + 1 ↔ ∀ p ∈ ps, dep p ≤ d := by
  rw [dep, ← deps_le]; omega
theorem dep_gate0 (b : Bool) (k : Nat) (ps : List T) : ¬ dep (.gate b k ps) ≤ 0 := by rw [dep]; omega
theorem lv_leaf (n : Nat) : lv (.leaf n) = [n] := by rw [lv]
theorem tD_leaf (n : Nat) : tD (.leaf n) = .int (n : Nat) := by rw [tD]
theorem flg_leaf (c : Bool) (n : Nat) : flg c (.leaf n) = .leaf n := by rw [flg]
theorem con_leaf (n : Nat) : con (.leaf n) = .leaf n := by rw [con]
theorem st_leaf (s : List Nat) (n : Nat) : st s (.leaf n) = decide (n ∈ s) := by rw [st]
end Kh

set_option maxRecDepth 100000
/-! kinds of data, by the kernel -/
namespace Kh
open PySem PySem.Spec PyProof.Rows L2
def kInt : PyData → Bool | .int _ => true | .bool _ => true | _ => false
def kBool : PyData → Bool | .bool _ => true | _ => false
def kStr : PyData → Bool | .str _ => true | _ => false
def kTup : PyData → Bool | .tuple _ => true | _ => false
def kList : PyData → Bool | .list _ => true | _ => false
theorem kit_int : ∀ d : PyData, kitB (tyN d) "int" = some (kInt d)
  | .none => (by decide +kernel : kitB "NoneType" "int" = some false)
  | .bool _ => (by decide +kernel : kitB "bool" "int" = some true)
  | .int _ => (by decide +kernel : kitB "int" "int" = some true)
  | .str _ => (by decide +kernel : kitB "str" "int" = some false)
  | .list _ => (by decide +kernel : kitB "list" "int" = some false)
  | .tuple _ => (by decide +kernel : kitB "tuple" "int" = some false)
  | .dict _ => (by decide +kernel : kitB "dict" "int" = some false)
theorem kit_bool : ∀ d : PyData, kitB (tyN d) "bool" = some (kBool d)
  | .none => (by decide +kernel : kitB "NoneType" "bool" = some false)
  | .bool _ => (by decide +kernel : kitB "bool" "bool" = some true)
  | .int _ => (by decide +kernel : kitB "int" "bool" = some false)
  | .str _ => (by decide +kernel : kitB "str" "bool" = some false)
  | .list _ => (by decide +kernel : kitB "list" "bool" = some false)
  | .tuple _ => (by decide +kernel : kitB "tuple" "bool" = some false)
  | .dict _ => (by decide +kernel : kitB "dict" "bool" = some false)
theorem kit_str : ∀ d : PyData, kitB (tyN d) "str" = some (kStr d)
  | .none => (by decide +kernel : kitB "NoneType" "str" = some false)
  | .bool _ => (by decide +kernel : kitB "bool" "str" = some false)
  | .int _ => (by decide +kernel : kitB "int" "str" = some false)
  | .str _ => (by decide +kernel : kitB "str" "str" = some true)
  | .list _ => (by decide +kernel : kitB "list" "str" = some false)
  | .tuple _ => (by decide +kernel : kitB "tuple" "str" = some false)
  | .dict _ => (by decide +kernel : kitB "dict" "str" = some false)
theorem kit_tup : ∀ d : PyData, kitB (tyN d) "tuple" = some (kTup d)
  | .none => (by decide +kernel : kitB "NoneType" "tuple" = some false)
  | .bool _ => (by decide +kernel : kitB "bool" "tuple" = some false)
  | .int _ => (by decide +kernel : kitB "int" "tuple" = some false)
  | .str _ => (by decide +kernel : kitB "str" "tuple" = some false)
  | .list _ => (by decide +kernel : kitB "list" "tuple" = some false)
  | .tuple _ => (by decide +kernel : kitB "tuple" "tuple" = some true)
  | .dict _ => (by decide +kernel : kitB "dict" "tuple" = some false)
theorem kit_list : ∀ d : PyData, kitB (tyN d) "list" = some (kList d)
  | .none => (by decide +kernel : kitB "NoneType" "list" = some false)
  | .bool _ => (by decide +kernel : kitB "bool" "list" = some false)
  | .int _ => (by decide +kernel : kitB "int" "list" = some false)
  | .str _ => (by decide +kernel : kitB "str" "list" = some false)
  | .list _ => (by decide +kernel : kitB "list" "list" = some true)
  | .tuple _ => (by decide +kernel : kitB "tuple" "list" = some false)
  | .dict _ => (by decide +kernel : kitB "dict" "list" = some false)
def isIntD : PyData → Bool | .int _ => true | _ => false
def isCountD : PyData → Bool | .int i => decide (0 ≤ i) | _ => false
def isListD (d : PyData) : Bool := kList d || kTup d
def belowD (m : Int) : PyData → Bool | .int i => decide (0 ≤ i) && decide (i < m) | _ => false
end Kh

set_option maxRecDepth 100000
/-! readings, piece by piece -/
namespace Kh
open PySem PySem.Spec PyProof.Rows L2
section
variable {σ : L2.St} {H : Hp} {Q : VK} {D : Ends} {te ta tb tc : TE} {tt tu : TT} {ts tv : TS} {r r' : R2} {c1 : List V → Hp → VK → Prop} {sp : Sp} {E : XK} {v : V} {i : Nat} {K : PySem.W.Frag}
theorem t_var (h : σ[i]? = some (some v)) (q : Q v H) : tVar i σ H Q := ⟨v, h, q⟩
theorem t_c (q : Q v H) : tC v σ H Q := q
theorem t_op (h : ta σ H fun x H1 => tb σ H1 fun y H2 => r x y H2 Q) : tOp r ta tb σ H Q := h
theorem t_un {u1 : V → Hp → VK → Prop} (h : ta σ H fun x H1 => u1 x H1 Q) : tUn u1 ta σ H Q := h
theorem t_cb1 (h : ta σ H fun x H1 => c1 [x] H1 Q) : tCB c1 (tCons ta tNil) σ H Q := h
theorem t_cb2 (h : ta σ H fun x H1 => tb σ H1 fun y H2 => c1 [x, y] H2 Q) : tCB c1 (tCons ta (tCons tb tNil)) σ H Q := h
theorem t_call1 (h : ta σ H fun x H1 => sp [x] H1 Q E) : tCall sp [] E (tCons ta tNil) σ H Q := h
theorem t_call2 (h : ta σ H fun x H1 => tb σ H1 fun y H2 => sp [x, y] H2 Q E) : tCall sp [] E (tCons ta (tCons tb tNil)) σ H Q := h
theorem t_call3 (h : ta σ H fun x H1 => tb σ H1 fun y H2 => tc σ H2 fun z H3 => sp [x, y, z] H3 Q E) : tCall sp [] E (tCons ta (tCons tb (tCons tc tNil))) σ H Q := h
theorem t_notV (h : ta σ H fun x H1 => ∃ c, x = .bl c ∧ Q (.bl (!c)) H1) : tNotV ta σ H Q := h
theorem t_andV (h : ta σ H fun x H1 => ∃ c, x = .bl c ∧ if c = true then tb σ H1 Q else Q (.bl false) H1) : tAndV ta tb σ H Q := h
theorem t_orV (h : ta σ H fun x H1 => ∃ c, x = .bl c ∧ if c = true then Q (.bl true) H1 else tb σ H1 Q) : tOrV ta tb σ H Q := h
theorem t_if (h : tt σ H fun c H1 => if c = true then ta σ H1 Q else tb σ H1 Q) : tIf tt ta tb σ H Q := h
theorem t_lst0 (h : ∀ p, H p = none → Q (.ref p) (upd H p (.lst []))) : tLst tNil σ H Q := ⟨Nat.zero_le _, h⟩
theorem t_lst1 (h : ta σ H fun x H1 => ∀ p, H1 p = none → Q (.ref p) (upd H1 p (.lst [x]))) (m : ∀ Q Q' : VK, (∀ v H, Q v H → Q' v H) → ta σ H Q → ta σ H Q') : tLst (tCons ta tNil) σ H Q := m _ _ (fun x _ h => ⟨show [x].length ≤ sizeLine from Nat.le_trans (show 1 ≤ 1000 by decide) (by decide), h⟩) h
theorem t_tup {t : TA} (h : t σ H fun xs H1 => xs.length ≤ sizeLine ∧ ∀ p, H1 p = none → Q (.ref p) (upd H1 p (.tup xs))) : tTup t σ H Q := h
theorem t_lst {t : TA} (h : t σ H fun xs H1 => xs.length ≤ sizeLine ∧ ∀ p, H1 p = none → Q (.ref p) (upd H1 p (.lst xs))) : tLst t σ H Q := h
theorem a_cons {t : TA} {q : List V → Hp → Prop} (h : te σ H fun x H1 => t σ H1 fun xs H2 => q (x :: xs) H2) : tCons te t σ H q := h
theorem a_nil {q : List V → Hp → Prop} (h : q [] H) : tNil σ H q := h
theorem t_bm {K : PySem.W.Frag} {T : String} {r3 : V → List V → Hp → VK → Prop} {t : TA} (h : te σ H fun x H1 => tyV K T x H1 ∧ t σ H1 fun xs H2 => r3 x xs H2 Q) : tBM K T r3 te t σ H Q := h
theorem t_bm0 {K : PySem.W.Frag} {T : String} {r3 : V → List V → Hp → VK → Prop} (h : te σ H fun x H1 => tyV K T x H1 ∧ r3 x [] H1 Q) : tBM0 K T r3 te σ H Q := h
theorem t_call {t : TA} (h : t σ H fun vs H1 => sp vs H1 Q E) : tCall sp [] E t σ H Q := by
  have e : (fun (vs : List V) (H1 : Hp) => sp (vs ++ []) H1 Q E) = fun vs H1 => sp vs H1 Q E := by funext vs H1; rw [List.append_nil]
  show t σ H fun vs H1 => sp (vs ++ []) H1 Q E
  rw [e]; exact h
theorem t_cb {t : TA} (h : t σ H fun vs H1 => c1 vs H1 Q) : tCB c1 t σ H Q := h
theorem b_test {q : Bool → Hp → Prop} (h : te σ H fun x H1 => ∃ k, x = .bl k ∧ q k H1) : tTest te σ H q := h
theorem b_val {q : Bool → Hp → Prop} (h : te σ H fun x H1 => ∃ k, x = .bl k ∧ q k H1) : tB te σ H q := h
theorem b_not {q : Bool → Hp → Prop} (h : tt σ H fun b H1 => q (!b) H1) : tNot tt σ H q := h
theorem b_and {q : Bool → Hp → Prop} (h : tt σ H fun c H1 => if c = true then tu σ H1 q else q false H1) : tAnd tt tu σ H q := h
theorem b_or {q : Bool → Hp → Prop} (h : tt σ H fun c H1 => if c = true then q true H1 else tu σ H1 q) : tOr tt tu σ H q := h
theorem s_ret (h : te σ H D.rt) : tRet te D σ H := h
theorem s_if (h : tt σ H fun b H1 => if b = true then ts D σ H1 else tv D σ H1) : tIfS tt ts tv D σ H := h
theorem s_seq (h : ts { D with nx := tv D } σ H) : tSeq ts tv D σ H := h
theorem s_set (h : te σ H fun x H1 => D.nx (σ.set i (some x)) H1) : tAsg te (gName i) D σ H := h
theorem s_next {f : L2.St → Hp → Prop} {r : VK} {b c : L2.St → Hp → Prop} (h : f σ H) : tNext { nx := f, rt := r, bk := b, ct := c } σ H := h
theorem nx_of {f : L2.St → Hp → Prop} {r : VK} {b c : L2.St → Hp → Prop} (h : f σ H) : Ends.nx { nx := f, rt := r, bk := b, ct := c } σ H := h
theorem s_drop (h : te σ H fun _ H1 => D.nx σ H1) : tDrop te D σ H := h
end
/-- a bool, then by cases -/
theorem bl_if {b : Bool} {A B : Prop} (h1 : b = true → A) (h2 : b = false → B) : ∃ c, V.bl b = V.bl c ∧ if c = true then A else B :=
  ⟨b, rfl, by cases b with
    | true => exact iteT (h1 rfl)
    | false => exact iteF (h2 rfl)⟩
theorem bl_ifT {A B : Prop} (h1 : A) : ∃ c, V.bl true = V.bl c ∧ if c = true then A else B := bl_if (fun _ => h1) fun z => nomatch z
theorem bl_ifF {A B : Prop} (h1 : B) : ∃ c, V.bl false = V.bl c ∧ if c = true then A else B := bl_if (fun z => nomatch z) fun _ => h1
theorem if_b {b : Bool} {A B : Prop} (h1 : b = true → A) (h2 : b = false → B) : if b = true then A else B := by
  cases b with
  | true => exact iteT (h1 rfl)
  | false => exact iteF (h2 rfl)
theorem ii {i j : Int} {C : Int → Int → Prop} (h : C i j) : ∃ k l, V.int i = V.int k ∧ V.int j = V.int l ∧ C k l := ⟨i, j, rfl, rfl, h⟩
end Kh

set_option maxRecDepth 100000
set_option maxHeartbeats 1000000
/-! comprehensions over data -/
namespace Kh
open PySem PySem.Spec PyProof.Rows L2
theorem le1 : 1 ≤ sizeLine := by decide
theorem le2 : 2 ≤ sizeLine := by decide
theorem le3 : 3 ≤ sizeLine := by decide
theorem le4 : 4 ≤ sizeLine := by decide
theorem le5 : 5 ≤ sizeLine := by decide
theorem ifT {b : Bool} {A B : Prop} (e : b = true) (h : A) : if b = true then A else B := by rw [e]; exact iteT h
theorem ifF {b : Bool} {A B : Prop} (e : b = false) (h : B) : if b = true then A else B := by rw [e]; exact iteF h
/-- a new object keeps the rest of what is told -/
theorem off_plus {S : Addr → Prop} {H1 H : Hp} {D : Addr} (hD : H1 D = none) (s : Same H1 H) : Same (off S H1) (off (plus S D) H) := fun b o h => by
  obtain ⟨n, h⟩ := off_some h
  rw [off_out]
  · exact s b o h
  · rintro (z | rfl)
    · exact n z
    · rw [hD] at h; cases h
theorem off_fin {S : Addr → Prop} {H : Hp} {D : Addr} : Same (off (plus S D) H) (off S H) := off_less fun _ h => .inl h
/-- a new list or tuple of data -/
theorem dp_lst {K : PySem.W.Frag} {S : Addr → Prop} {H : Hp} {D : Addr} {ys : List V} {ds : List PyData} (n : ¬ S D) (h : H D = some (.lst ys)) (a : DpAll K (off S H) ys ds) : Dp K (off S H) (.ref D) (.list ds) :=
  .lst (sqL (by rw [off_out n]; exact h)) a
theorem dp_tup {K : PySem.W.Frag} {S : Addr → Prop} {H : Hp} {D : Addr} {ys : List V} {ds : List PyData} (n : ¬ S D) (h : H D = some (.tup ys)) (a : DpAll K (off S H) ys ds) : Dp K (off S H) (.ref D) (.tuple ds) :=
  .tup (sqT (by rw [off_out n]; exact h)) a
theorem dp_newT {K : PySem.W.Frag} {S : Addr → Prop} {H : Hp} {D : Addr} {ys : List V} {ds : List PyData} (kn : Kn S H) (h : H D = none) (a : DpAll K (off S H) ys ds) : Dp K (off S (upd H D (.tup ys))) (.ref D) (.tuple ds) :=
  dp_tup (kn.new h) upd_same (dpa_same (off_same (same_new h)) _ _ a)
theorem dp_newL {K : PySem.W.Frag} {S : Addr → Prop} {H : Hp} {D : Addr} {ys : List V} {ds : List PyData} (kn : Kn S H) (h : H D = none) (a : DpAll K (off S H) ys ds) : Dp K (off S (upd H D (.lst ys))) (.ref D) (.list ds) :=
  dp_lst (kn.new h) upd_same (dpa_same (off_same (same_new h)) _ _ a)
theorem dp_bl {K : PySem.W.Frag} {H : Hp} {b c : Bool} (e : b = c) : Dp K H (.bl b) (.bool c) := by subst e; exact .bl b
theorem dp_int {K : PySem.W.Frag} {H : Hp} {b c : Int} (e : b = c) : Dp K H (.int b) (.int c) := by subst e; exact .int b
/-- what is walked: a list or a tuple of data -/
theorem it_any {K : PySem.W.Frag} {S : Addr → Prop} {H : Hp} {σ : L2.St} {t : TE} {R : It → Hp → Prop} {b : Bool} {ds : List PyData}
    (hev : ∀ Q : VK, (∀ u H1, Same H H1 → Dp K (off S H1) u (sq b ds) → Q u H1) → t σ H Q)
    (k : ∀ J xs H1, Same H H1 → DpAll K (off S H1) xs ds → Walk J xs.length (fun H' => Same (off S H1) H') (YAt xs) → R J H1) : iList K t σ H R ∨ iTup K t σ H R := by
  cases b with
  | false =>
    refine .inl (hev _ fun u H1 s du => ?_)
    obtain ⟨a, xs, rfl, hs, ha⟩ := list_at du
    exact ⟨a, rfl, ⟨xs, off_sub.seq hs⟩, k _ xs H1 s ha (walk_list.mono (fun H' z => z.seq hs) fun _ _ _ _ _ _ y => y)⟩
  | true =>
    refine .inr (hev _ fun u H1 s du => ?_)
    obtain ⟨a, xs, rfl, hs, ha⟩ := tup_at du
    exact ⟨a, rfl, ⟨xs, same_t off_sub hs⟩, k _ xs H1 s ha (walk_tup.mono (fun H' z => same_t z hs) fun _ _ _ _ _ _ y => y)⟩
theorem range_map {α β : Type} {l : List α} {f : Nat → β} {g : α → β} (h : ∀ i x, l[i]? = some x → f i = g x) : (List.range l.length).map f = l.map g := by
  apply List.ext_getElem?
  intro i
  by_cases q : i < l.length
  · rw [List.getElem?_map, List.getElem?_map, List.getElem?_range q, List.getElem?_eq_getElem q]
    simp [h i _ (List.getElem?_eq_getElem q)]
  · rw [List.getElem?_eq_none_iff.mpr (by simp; omega), List.getElem?_eq_none_iff.mpr (by simp; omega)]
/-- [e for x in xs], e data of the item -/
theorem lc_dat {K : PySem.W.Frag} {S : Addr → Prop} {H1 : Hp} {σ : L2.St} {te : TE} {sl : Nat} {vs : List Nat} {Qd : VK} {J : It} {xs : List V} {ds : List PyData} (f : Nat → PyData)
    (w : Walk J xs.length (fun H' => Same (off S H1) H') (YAt xs)) (ha : DpAll K (off S H1) xs ds) (kn : Kn S H1) (hn : ds.length ≤ 100000) (hw : ∀ x, wipe ((wipe σ vs).set sl (some x)) vs = wipe σ vs)
    (body : ∀ j x d H S', ds[j]? = some d → Same H1 H → Kn S' H → Dp K (off S' H) x d → (∀ a, S a → S' a) → Same (off S H1) (off S' H) → ∀ Q : VK, (∀ y H', Same H H' → Dp K (off S' H') y (f j) → Q y H') → te ((wipe σ vs).set sl (some x)) H Q)
    (done : ∀ D H ys, H1 D = none → Same H1 H → H D = some (.lst ys) → Dp K (off S H) (.ref D) (.list ((List.range ds.length).map f)) → Qd (.ref D) H) :
    ∀ D, H1 D = none → ∃ W : Nat → Nat → Hp → Prop, (∃ m, W 0 m (upd H1 D (.lst []))) ∧ ∀ i m H, W i m H →
      (J.stop i H ∧ Qd (.ref D) H) ∨ (J.go i H ∧ ∃ Nx : Hp → Prop, (∀ H', Nx H' → ∃ m', m' < m ∧ W (i + 1) m' H') ∧ ∀ x H', J.yld i H x H' → gName sl x (wipe σ vs) H' fun σ2 H2 => wipe σ2 vs = wipe σ vs ∧ tYes σ2 H2 fun b H3 =>
        if b = true then te σ2 H3 fun y H4 => ∃ acc, H4 D = some (.lst acc) ∧ acc.length < sizeLine ∧ Nx (upd H4 D (.lst (acc ++ [y]))) else Nx H3) := by
  intro D hD
  have ln := dpa_len ha
  refine lc_map (Qd := Qd (.ref D)) w (fun j x => xs[j]? = some x) (fun i H x H' _ y => y) (fun j y H => Dp K (off (plus S D) H) y (f j)) (fun H s => off_sub.trans s) hD (by omega) hw (fun j y H H' e h => dp_same (off_but e) _ _ h) (fun j x H hj xj s hd Q q => ?_) (fun ys H hl py s hd => ?_)
  · obtain ⟨d, dj, dx⟩ := dpa_at ha xj
    exact body j x d H (plus S D) dj s ((kn.same s).plus hd) (dp_same (off_plus hD s) _ _ dx) (fun _ h => .inl h) (off_plus hD s) Q q
  · refine done D H ys hD s hd (dp_lst (kn.new hD) hd ?_)
    refine dpa_same (off_fin (D := D)) _ _ (dpa_of (by simp [hl, ln]) fun i v d h1 h2 => ?_)
    have hi : i < ds.length := by
      have := (List.getElem?_eq_some_iff.mp h1).1
      omega
    rw [List.getElem?_map, List.getElem?_range hi] at h2
    cases h2
    exact py i v h1
/-- [e for x in xs if t], t known item by item -/
theorem lc_datF {K : PySem.W.Frag} {S : Addr → Prop} {H1 : Hp} {σ : L2.St} {te : TE} {tt : TT} {sl : Nat} {vs : List Nat} {Qd : VK} {J : It} {xs : List V} {ds : List PyData} (pt : Nat → Bool) (f : Nat → PyData)
    (w : Walk J xs.length (fun H' => Same (off S H1) H') (YAt xs)) (ha : DpAll K (off S H1) xs ds) (kn : Kn S H1) (hn : ds.length ≤ 100000) (hw : ∀ x, wipe ((wipe σ vs).set sl (some x)) vs = wipe σ vs)
    (test : ∀ j x d H S', ds[j]? = some d → Same H1 H → Kn S' H → Dp K (off S' H) x d → (∀ a, S a → S' a) → Same (off S H1) (off S' H) → ∀ Q : Bool → Hp → Prop, (∀ H', Same H H' → Q (pt j) H') → tt ((wipe σ vs).set sl (some x)) H Q)
    (body : ∀ j x d H S', ds[j]? = some d → pt j = true → Same H1 H → Kn S' H → Dp K (off S' H) x d → (∀ a, S a → S' a) → Same (off S H1) (off S' H) → ∀ Q : VK, (∀ y H', Same H H' → Dp K (off S' H') y (f j) → Q y H') → te ((wipe σ vs).set sl (some x)) H Q)
    (done : ∀ D H ys, H1 D = none → Same H1 H → H D = some (.lst ys) → Dp K (off S H) (.ref D) (.list (((List.range ds.length).filter pt).map f)) → Qd (.ref D) H) :
    ∀ D, H1 D = none → ∃ W : Nat → Nat → Hp → Prop, (∃ m, W 0 m (upd H1 D (.lst []))) ∧ ∀ i m H, W i m H →
      (J.stop i H ∧ Qd (.ref D) H) ∨ (J.go i H ∧ ∃ Nx : Hp → Prop, (∀ H', Nx H' → ∃ m', m' < m ∧ W (i + 1) m' H') ∧ ∀ x H', J.yld i H x H' → gName sl x (wipe σ vs) H' fun σ2 H2 => wipe σ2 vs = wipe σ vs ∧ tt σ2 H2 fun b H3 =>
        if b = true then te σ2 H3 fun y H4 => ∃ acc, H4 D = some (.lst acc) ∧ acc.length < sizeLine ∧ Nx (upd H4 D (.lst (acc ++ [y]))) else Nx H3) := by
  intro D hD
  have ln := dpa_len ha
  refine lc_filt (Qd := Qd (.ref D)) w (fun j x => xs[j]? = some x) (fun i H x H' _ y => y) pt (fun j y H => Dp K (off (plus S D) H) y (f j)) (fun H s => off_sub.trans s) hD (by omega) hw (fun j y H H' e h => dp_same (off_but e) _ _ h) (fun j x H hj xj s hd Q q => ?_) (fun j x H hj xj pj s hd Q q => ?_) (fun ys H py s hd => ?_)
  · obtain ⟨d, dj, dx⟩ := dpa_at ha xj
    exact test j x d H (plus S D) dj s ((kn.same s).plus hd) (dp_same (off_plus hD s) _ _ dx) (fun _ h => .inl h) (off_plus hD s) Q q
  · obtain ⟨d, dj, dx⟩ := dpa_at ha xj
    exact body j x d H (plus S D) dj pj s ((kn.same s).plus hd) (dp_same (off_plus hD s) _ _ dx) (fun _ h => .inl h) (off_plus hD s) Q q
  · refine done D H ys hD s hd (dp_lst (kn.new hD) hd ?_)
    rw [ln] at py
    refine dpa_same (off_fin (D := D)) _ _ ?_
    have go : ∀ {l : List Nat} {ys : List V}, Paired (fun j y => Dp K (off (plus S D) H) y (f j)) l ys → DpAll K (off (plus S D) H) ys (l.map f) := by
      intro l ys p
      induction p with
      | nil => exact .nil
      | cons r t ih => exact .cons r ih
    exact go py
theorem lc_seqF {K : PySem.W.Frag} {S : Addr → Prop} {H : Hp} {σ : L2.St} {t te : TE} {tt : TT} {sl : Nat} {vs : List Nat} {Q : VK} {b : Bool} {ds : List PyData} (pt : Nat → Bool) (f : Nat → PyData) (kn : Kn S H)
    (hev : ∀ Q : VK, (∀ u H1, Same H H1 → Dp K (off S H1) u (sq b ds) → Q u H1) → t σ H Q) (hn : ds.length ≤ 100000) (hw : ∀ x, wipe ((wipe σ vs).set sl (some x)) vs = wipe σ vs)
    (test : ∀ j x d H1 S', ds[j]? = some d → Same H H1 → Kn S' H1 → Dp K (off S' H1) x d → (∀ a, S a → S' a) → Same (off S H) (off S' H1) → ∀ Q : Bool → Hp → Prop, (∀ H', Same H1 H' → Q (pt j) H') → tt ((wipe σ vs).set sl (some x)) H1 Q)
    (body : ∀ j x d H1 S', ds[j]? = some d → pt j = true → Same H H1 → Kn S' H1 → Dp K (off S' H1) x d → (∀ a, S a → S' a) → Same (off S H) (off S' H1) → ∀ Q : VK, (∀ y H', Same H1 H' → Dp K (off S' H') y (f j) → Q y H') → te ((wipe σ vs).set sl (some x)) H1 Q)
    (done : ∀ D H1 ys, H D = none → Same H H1 → H1 D = some (.lst ys) → Dp K (off S H1) (.ref D) (.list (((List.range ds.length).filter pt).map f)) → Q (.ref D) H1) :
    tLc (fun σ H R => iList K t σ H R ∨ iTup K t σ H R) (gName sl) tt te vs σ H Q :=
  it_any hev fun J xs H1 s ha w => lc_datF pt f w ha (kn.same s) hn hw (fun j x d H2 S' dj s2 kn2 dx hS hoff Q q => test j x d H2 S' dj (s.trans s2) kn2 dx hS ((off_same s).trans hoff) Q q)
    (fun j x d H2 S' dj pj s2 kn2 dx hS hoff Q q => body j x d H2 S' dj pj (s.trans s2) kn2 dx hS ((off_same s).trans hoff) Q q)
    fun D H2 ys hD s2 hd h => done D H2 ys (s.free hD) (s.trans s2) hd h
theorem range_filter {α β : Type} {l : List α} {pt : Nat → Bool} {p : α → Bool} {f : Nat → β} {g : α → β} (h : ∀ i x, l[i]? = some x → pt i = p x ∧ f i = g x) : ((List.range l.length).filter pt).map f = (l.filter p).map g := by
  have go : ∀ n, n ≤ l.length → ((List.range n).filter pt).map f = ((l.take n).filter p).map g := by
    intro n
    induction n with
    | zero => intro _; simp
    | succ n ih =>
      intro hn
      have e : l[n]? = some l[n] := List.getElem?_eq_getElem (by omega)
      obtain ⟨h1, h2⟩ := h n _ e
      rw [List.range_succ, List.take_add_one, e, List.filter_append, List.filter_append, List.map_append, List.map_append, ih (by omega)]
      congr 1
      cases q : p l[n] with
      | true => rw [q] at h1; simp [h1, h2, q]
      | false => rw [q] at h1; simp [h1, q]
  have := go l.length (Nat.le_refl _)
  rwa [List.take_length] at this
/-- .. that is walked as it stands -/
theorem lc_seq {K : PySem.W.Frag} {S : Addr → Prop} {H : Hp} {σ : L2.St} {t te : TE} {sl : Nat} {vs : List Nat} {Q : VK} {b : Bool} {ds : List PyData} (f : Nat → PyData) (kn : Kn S H)
    (hev : ∀ Q : VK, (∀ u H1, Same H H1 → Dp K (off S H1) u (sq b ds) → Q u H1) → t σ H Q) (hn : ds.length ≤ 100000) (hw : ∀ x, wipe ((wipe σ vs).set sl (some x)) vs = wipe σ vs)
    (body : ∀ j x d H1 S', ds[j]? = some d → Same H H1 → Kn S' H1 → Dp K (off S' H1) x d → (∀ a, S a → S' a) → Same (off S H) (off S' H1) → ∀ Q : VK, (∀ y H', Same H1 H' → Dp K (off S' H') y (f j) → Q y H') → te ((wipe σ vs).set sl (some x)) H1 Q)
    (done : ∀ D H1 ys, H D = none → Same H H1 → H1 D = some (.lst ys) → Dp K (off S H1) (.ref D) (.list ((List.range ds.length).map f)) → Q (.ref D) H1) :
    tLc (fun σ H R => iList K t σ H R ∨ iTup K t σ H R) (gName sl) tYes te vs σ H Q :=
  it_any hev fun J xs H1 s ha w => lc_dat f w ha (kn.same s) hn hw (fun j x d H2 S' dj s2 kn2 dx hS hoff Q q => body j x d H2 S' dj (s.trans s2) kn2 dx hS ((off_same s).trans hoff) Q q)
    fun D H2 ys hD s2 hd h => done D H2 ys (s.free hD) (s.trans s2) hd h

theorem t_yes {σ : L2.St} {H : Hp} {A B : Hp → Prop} (h : A H) : tYes σ H fun b H' => if b = true then A H' else B H' := iteT (A := A H) (B := B H) h
/-- any walk, a step a turn -/
theorem wlk {J : It} {n : Nat} {G : Hp → Prop} {Y : Nat → Hp → V → Hp → Prop} (w : Walk J n G Y) {H0 : Hp} {Dn : Hp → Prop} (Stp : V → Hp → (Hp → Prop) → Prop) (Pv : Nat → Hp → Prop) (h0 : Pv 0 H0) (hG : ∀ i H, i ≤ n → Pv i H → G H)
    (hs : ∀ i x H H', i < n → Pv i H → Y i H x H' → Stp x H' (Pv (i + 1))) (hd : ∀ H, Pv n H → Dn H) :
    ∃ W : Nat → Nat → Hp → Prop, (∃ m, W 0 m H0) ∧ ∀ i m H, W i m H →
      (J.stop i H ∧ Dn H) ∨ (J.go i H ∧ ∃ Nx : Hp → Prop, (∀ H', Nx H' → ∃ m', m' < m ∧ W (i + 1) m' H') ∧ ∀ x H', J.yld i H x H' → Stp x H' Nx) := by
  refine ⟨fun i m H => m = n - i ∧ i ≤ n ∧ Pv i H, ⟨n, by simp, Nat.zero_le _, h0⟩, ?_⟩
  rintro i m H ⟨rfl, hi, p⟩
  by_cases q : i < n
  · exact .inr ⟨w.goes i H q (hG i H hi p), Pv (i + 1), fun H' p' => ⟨n - (i + 1), by omega, rfl, q, p'⟩, fun x H' y => hs i x H H' q p (w.yields i H x H' q (hG i H hi p) y)⟩
  · have e : i = n := by omega
    subst e
    exact .inl ⟨w.stops H (hG _ H hi p), hd H p⟩
theorem flat_take {f : Nat → List PyData} (n : Nat) : (List.range (n + 1)).flatMap f = (List.range n).flatMap f ++ f n := by
  rw [List.range_succ, List.flatMap_append]; simp
/-- [y for x in xs for y in e], e a list of data -/
theorem lc2_seq {K : PySem.W.Frag} {S : Addr → Prop} {H : Hp} {σ : L2.St} {t t2 : TE} {s1 s2 : Nat} {vs vs1 : List Nat} {Q : VK} {b : Bool} {ds : List PyData} (f : Nat → List PyData) (kn : Kn S H)
    (hev : ∀ Q : VK, (∀ u H1, Same H H1 → Dp K (off S H1) u (sq b ds) → Q u H1) → t σ H Q) (hn : ∀ n, n ≤ ds.length → ((List.range n).flatMap f).length ≤ 100000) (hw : ∀ x, wipe ((wipe σ vs).set s1 (some x)) vs = wipe σ vs)
    (hw1 : ∀ x y, wipe ((wipe ((wipe σ vs).set s1 (some x)) vs1).set s2 (some y)) vs1 = wipe ((wipe σ vs).set s1 (some x)) vs1) (hg : ∀ x y, ((wipe ((wipe σ vs).set s1 (some x)) vs1).set s2 (some y))[s2]? = some (some y))
    (body : ∀ j x d H1 S', ds[j]? = some d → Same H H1 → Kn S' H1 → Dp K (off S' H1) x d → (∀ a, S a → S' a) → ∀ Q : VK, (∀ y H', Same H1 H' → Dp K (off S' H') y (.list (f j)) → Q y H') → t2 ((wipe σ vs).set s1 (some x)) H1 Q)
    (done : ∀ D H1 ys, H D = none → Same H H1 → H1 D = some (.lst ys) → Dp K (off S H1) (.ref D) (.list ((List.range ds.length).flatMap f)) → Q (.ref D) H1) :
    tLc2 (fun σ H R => iList K t σ H R ∨ iTup K t σ H R) (gName s1) tYes (fun σ H R => iList K t2 σ H R ∨ iTup K t2 σ H R) (gName s2) tYes (tVar s2) vs vs1 σ H Q := by
  refine it_any hev fun J xs H1 s ha w D hD => ?_
  have ln := dpa_len ha
  have kn1 := kn.same s
  refine wlk w (fun x H' Nx => gName s1 x (wipe σ vs) H' _) (fun i H' => ∃ ys, DpAll K (off (plus S D) H') ys ((List.range i).flatMap f) ∧ Same H1 H' ∧ H' D = some (.lst ys)) ⟨[], .nil, same_new hD, upd_same⟩ (fun i H' _ ⟨_, _, z, _⟩ => off_sub.trans z) ?_ ?_
  · rintro i x H2 H3 hi ⟨ys, py, z, hd⟩ ⟨rfl, xi⟩
    obtain ⟨d, dj, dx⟩ := dpa_at ha xi
    refine ⟨hw x, t_yes ?_⟩
    refine it_any (b := false) (S := plus S D) (ds := f i) (fun Q q => body i x d H3 (plus S D) dj (s.trans z) ((kn1.same z).plus (some_ne hd)) (dp_same (off_plus hD z) _ _ dx) (fun _ h => .inl h) Q q) fun J1 zs H4 s4 hz w1 => ?_
    have lz := dpa_len hz
    refine wlk w1 (fun y H' Nx => gName s2 y (wipe ((wipe σ vs).set s1 (some x)) vs1) H' fun σ3 H5 => wipe σ3 vs1 = wipe ((wipe σ vs).set s1 (some x)) vs1 ∧ tYes σ3 H5 fun b H6 => if b = true then tVar s2 σ3 H6 fun y H7 => ∃ acc, H7 D = some (.lst acc) ∧ acc.length < sizeLine ∧ Nx (upd H7 D (.lst (acc ++ [y]))) else Nx H6) (fun j H' => ∃ ys', DpAll K (off (plus S D) H') ys' ((List.range i).flatMap f ++ (f i).take j) ∧ SameBut D H4 H' ∧ H' D = some (.lst ys')) ⟨ys, by simpa using dpa_same (off_same s4) _ _ py, sbut (Same.refl _), s4 _ _ hd⟩ (fun j H' _ ⟨_, _, z', _⟩ => fun c o h => z' c o (fun e => (off_some h).1 (.inr e)) (off_some h).2) ?_ fun H5 h5 => ?_
    · rintro j y H5 H6 hj ⟨ys', py', z', hd'⟩ ⟨rfl, yj⟩
      obtain ⟨e, ej, de⟩ := dpa_at hz yj
      refine ⟨hw1 x y, t_yes ?_⟩
      have hl : ys'.length ≤ 100000 := by
        have h1 := dpa_len py'
        have h2 := hn (i + 1) (by omega)
        rw [flat_take, List.length_append] at h2
        rw [h1, List.length_append, List.length_take]
        omega
      refine ⟨y, hg x y, ys', hd', Nat.lt_of_le_of_lt hl (by decide), ys' ++ [y], ?_, bmut z', upd_same⟩
      rw [off_mut (show plus S D D from .inr rfl), List.take_add_one, ej, ← List.append_assoc]
      exact dpa_app py' (.cons (dp_same (off_but z') _ _ de) .nil)
    · obtain ⟨ys', py', z', hd'⟩ := h5
      refine ⟨ys', ?_, ?_, hd'⟩
      · rw [flat_take]
        rwa [List.take_of_length_le (by omega)] at py'
      · intro c o h
        exact z' c o (ne_of_none h hD) (s4 c o (z c o h))
  · rintro H2 ⟨ys, py, z, hd⟩
    refine done D H2 ys (s.free hD) (s.trans z) hd (dp_lst (kn1.new hD) hd ?_)
    rw [← ln]
    exact dpa_same (off_fin (D := D)) _ _ py
end Kh

set_option maxRecDepth 100000
set_option maxHeartbeats 4000000
namespace PySem
open PySem.AutoSeq1
theorem kh_extend_tuple (l : Addr) (items : Array Value) (n : Nat) (b : Addr) (items2 : Array Value) (n2 : Nat) (dd : Option Addr) (sl : Array (Option Value)) (hs0 : ¬(!items.isEmpty && Builtin.List.listTooLong (items.size + items2.size)) = true) (hs1 : items.size ≤ sizeLine)
    (hs2 : items.size + items2.size ≤ sizeLine + 1) :
    Meets (Builtin.«list.extend» ⟨[.ref l, .ref b], []⟩) (fun _ R s => s.heap.get? l = some { cls := .type "list", dict := none, data := .seq items n, slots := #[] } ∧ s.heap.get? b = some { cls := .type "tuple", dict := dd, data := .seq items2 n2, slots := sl } ∧
      R (.ok (.ret Value.none)) { s with heap := s.heap.update l (Obj.mapSeq fun x => x ++ items2), toks := s.toks }) :=
  .of_wp fun prog w A R s h => by
    obtain ⟨hp, g, d, tk, os⟩ := s
    obtain ⟨hl, hb, h⟩ := h
    have f1 := idx_int; have f2 := sub_tuple_tuple; have f3 := sub_list_list; have f4 := sub_tuple_list; have f5 := sub_list_tuple
    have hz' : (items ++ items2).size ≤ sizeLine + 1 := by rw [Array.size_append]; exact hs2
    wp_walk using (wpAny_updateSeq hl rfl (hz := hs1) (_hz' := hz')), wpAny_loadPart' hl, wpAny_loadPart' hb
    exact ⟨_, rfl, h⟩
theorem kh_extend_list (l : Addr) (items : Array Value) (n : Nat) (b : Addr) (items2 : Array Value) (n2 : Nat) (dd : Option Addr) (sl : Array (Option Value)) (hs0 : ¬(!items.isEmpty && Builtin.List.listTooLong (items.size + items2.size)) = true) (hs1 : items.size ≤ sizeLine)
    (hs2 : items.size + items2.size ≤ sizeLine + 1) :
    Meets (Builtin.«list.extend» ⟨[.ref l, .ref b], []⟩) (fun _ R s => s.heap.get? l = some { cls := .type "list", dict := none, data := .seq items n, slots := #[] } ∧ s.heap.get? b = some { cls := .type "list", dict := dd, data := .seq items2 n2, slots := sl } ∧
      R (.ok (.ret Value.none)) { s with heap := s.heap.update l (Obj.mapSeq fun x => x ++ items2), toks := s.toks }) :=
  .of_wp fun prog w A R s h => by
    obtain ⟨hp, g, d, tk, os⟩ := s
    obtain ⟨hl, hb, h⟩ := h
    have f1 := idx_int; have f2 := sub_tuple_tuple; have f3 := sub_list_list; have f4 := sub_tuple_list; have f5 := sub_list_tuple
    have hz' : (items ++ items2).size ≤ sizeLine + 1 := by rw [Array.size_append]; exact hs2
    wp_walk using (wpAny_updateSeq hl rfl (hz := hs1) (_hz' := hz')), wpAny_loadPart' hl, wpAny_loadPart' hb
    exact ⟨_, rfl, h⟩
end PySem
namespace Kh
open PySem PySem.Spec PyProof.Rows L2
/-- xs.extend(a list or a tuple) -/
def rExtS (K : PySem.W.Frag) : V → List V → Hp → VK → Prop := fun x vs H Q => ∃ l b xs zs, x = .ref l ∧ vs = [.ref b] ∧ H l = some (.lst xs) ∧ (SqL K H b zs ∨ SqT K H b zs) ∧ xs.length + zs.length ≤ sizeLine ∧ Q .non (upd H l (.lst (xs ++ zs)))
theorem mt_extS {X : Cx} : MtM X "list.extend" (rExtS X.K) := by
  intro pins s ρ H x vs v us Q I rx rv h
  obtain ⟨l, b, xs, zs, rfl, rfl, hH, hB, hz, q⟩ := h
  cases rx
  obtain ⟨u, rfl, ru⟩ := rv.one
  cases ru
  obtain ⟨z, its, n, r, hl, e⟩ := I.lstM hH
  have fin : ∀ (its2 : List Value), Vals zs its2 → EP X pins ρ Q Value.none { s with heap := s.heap.update l (Obj.mapSeq fun x => x ++ its2.toArray), toks := s.toks } := fun its2 r2 =>
    ⟨.non, _, I.lset (its' := its ++ its2) hH e (by simp) (r.append r2) (by rw [List.length_append]; omega), rfl, q⟩
  have door : ∀ its2 : List Value, Vals zs its2 → ¬ (!its.toArray.isEmpty && Builtin.List.listTooLong (its.toArray.size + its2.toArray.size)) = true := fun its2 r2 => by
    have h1 : its.toArray.size + its2.toArray.size ≤ sizeLine := by rw [List.size_toArray, List.size_toArray, ← hl, ← r2.length]; exact hz
    rw [notLongL h1, Bool.and_false]; exact Bool.false_ne_true
  rcases hB with hB | hB
  · obtain ⟨its2, r2, ⟨⟨oc, od, ot, os⟩, n2, e2, h1, h2, h3⟩, _⟩ := I.list hB
    simp only at h1 h2 h3
    subst h1; subst h2; subst h3
    refine call_meets F.slot_list_extend ⟨_, e, rfl⟩ F.entry_list_extend (F.args_list_extend_2 _ _) (kh_extend_list l its.toArray n b its2.toArray n2 none os (door its2 r2) (by rw [List.size_toArray]; omega) ?_) ⟨e, e2, fin its2 r2⟩
    rw [List.size_toArray, List.size_toArray, ← hl, ← r2.length]; omega
  · obtain ⟨its2, r2, ⟨⟨oc, od, ot, os⟩, e2, h1, n2, h3⟩, _⟩ := I.tuple hB
    simp only at h1 h3
    subst h1; subst h3
    refine call_meets F.slot_list_extend ⟨_, e, rfl⟩ F.entry_list_extend (F.args_list_extend_2 _ _) (kh_extend_tuple l its.toArray n b its2.toArray n2 od os (door its2 r2) (by rw [List.size_toArray]; omega) ?_) ⟨e, e2, fin its2 r2⟩
    rw [List.size_toArray, List.size_toArray, ← hl, ← r2.length]; omega
end Kh

set_option maxRecDepth 100000
set_option maxHeartbeats 1000000
/-! the rules with the written part named (within a comprehension it is the body's) -/
namespace Kh
open PySem PySem.Spec PyProof.Rows L2
section
variable {X : Cx} {K : PySem.W.Frag}
theorem k_ix (h : X.K = K := by rfl) : IxR X (rIx K) := by subst h; exact ix_seq
theorem k_isi (h : X.K = K := by rfl) : CallR X (.builtin "isinstance") (rIsi K) := by subst h; exact call_isi
theorem k_isiT (h : X.K = K := by rfl) : CallR X (.builtin "isinstance") (rIsiT K) := by subst h; exact call_isiT
theorem k_len (h : X.K = K := by rfl) : CallR X (.builtin "len") (rLen K) := by subst h; exact call_lenR
theorem k_tup (h : X.K = K := by rfl) : CallR X (.type "tuple") (rTupOf K) := by subst h; exact call_tupR
theorem k_list (h : X.K = K := by rfl) : CallR X (.type "list") (rListOf K) := by subst h; exact call_listR
theorem k_all (hc : X.calm = true) (h : X.K = K := by rfl) : CallR X (.builtin "all") (rAll K) := by subst h; exact cr_all hc
theorem k_any (hc : X.calm = true) (h : X.K = K := by rfl) : CallR X (.builtin "any") (rAny K) := by subst h; exact cr_any hc
theorem k_max (hc : X.calm = true) (h : X.K = K := by rfl) : CallR X (.builtin "max") (rMax K) := by subst h; exact cr_max hc
theorem k_in (h : X.K = K := by rfl) : OpR X (compareOp .In) (rIn K false) := by subst h; exact op_in_seq
theorem k_notIn (h : X.K = K := by rfl) : OpR X (compareOp .NotIn) (rIn K true) := by subst h; exact op_notIn_seq
theorem k_eqD (hu : X.A.units + 64 < cLine) (h : X.K = K := by rfl) : OpR X (compareOp .Eq) (rEqD K) := by subst h; exact op_eqD hu
theorem k_neD (hu : X.A.units + 64 < cLine) (h : X.K = K := by rfl) : OpR X (compareOp .NotEq) (rNeD K) := by subst h; exact op_neD hu
theorem k_sl (h : X.K = K := by rfl) : SlR X (rSlL K) := by subst h; exact sl_list
theorem k_ext (h : X.K = K := by rfl) : MtM X "list.extend" (rExtS K) := by subst h; exact mt_extS
theorem k_pi {tg e : Expr} {t : TE} (he : PE X e t) (h : X.K = K := by rfl) : PI X tg e (fun σ H R => iList K t σ H R ∨ iTup K t σ H R) := by subst h; exact pi_any he
theorem k_fld {e : Expr} {f : Str} {pos : Pos} {t : TE} (he : PE X e t) (hb : attributeBase e f X.env (eval e X.env) = eval e X.env) (h : X.K = K := by rfl) : PE X (.Attribute e f pos) (tFld K t f) := by subst h; exact pe_fld he hb
end
end Kh

set_option maxRecDepth 100000
set_option maxHeartbeats 4000000
namespace K31
open PySem PySem.Spec PyProof.Rows L2 Kh
def top (i : Nat) : Stmt := PySem.Challenge.pw_oneshelf_k32_whole_meetings_and_cuts.main.body.getD i (.Pass ⟨0, 0, 0, 0⟩)
abbrev is_integer_s : Stmt := top 1
abbrev is_integer_N : List Str := ["value"]
theorem sc_is_integer : FnScope is_integer_N ["value"] (defScope is_integer_s) := ⟨rfl, rfl, rfl, by decide +kernel, rfl, by decide +kernel, by decide +kernel⟩
abbrev is_count_s : Stmt := top 2
abbrev is_count_N : List Str := ["value"]
theorem sc_is_count : FnScope is_count_N ["value"] (defScope is_count_s) := ⟨rfl, rfl, rfl, by decide +kernel, rfl, by decide +kernel, by decide +kernel⟩
abbrev is_list_s : Stmt := top 3
abbrev is_list_N : List Str := ["value"]
theorem sc_is_list : FnScope is_list_N ["value"] (defScope is_list_s) := ⟨rfl, rfl, rfl, by decide +kernel, rfl, by decide +kernel, by decide +kernel⟩
abbrev is_number_below_s : Stmt := top 4
abbrev is_number_below_N : List Str := ["value", "many"]
theorem sc_is_number_below : FnScope is_number_below_N ["value", "many"] (defScope is_number_below_s) := ⟨rfl, rfl, rfl, by decide +kernel, rfl, by decide +kernel, by decide +kernel⟩
abbrev is_gate_s : Stmt := top 17
abbrev is_gate_N : List Str := ["value"]
theorem sc_is_gate : FnScope is_gate_N ["value"] (defScope is_gate_s) := ⟨rfl, rfl, rfl, by decide +kernel, rfl, by decide +kernel, by decide +kernel⟩
abbrev is_tree_s : Stmt := top 18
abbrev is_tree_N : List Str := ["value", "waiting", "part"]
theorem sc_is_tree : FnScope is_tree_N ["value"] (defScope is_tree_s) := ⟨rfl, rfl, rfl, by decide +kernel, rfl, by decide +kernel, by decide +kernel⟩
abbrev firm_s : Stmt := top 19
abbrev firm_N : List Str := ["shape", "part"]
theorem sc_firm : FnScope firm_N ["shape"] (defScope firm_s) := ⟨rfl, rfl, rfl, by decide +kernel, rfl, by decide +kernel, by decide +kernel⟩
abbrev listed_s : Stmt := top 20
abbrev listed_N : List Str := ["shape", "part"]
theorem sc_listed : FnScope listed_N ["shape"] (defScope listed_s) := ⟨rfl, rfl, rfl, by decide +kernel, rfl, by decide +kernel, by decide +kernel⟩
abbrev leaves_s : Stmt := top 21
abbrev leaves_N : List Str := ["shape", "part", "house"]
theorem sc_leaves : FnScope leaves_N ["shape"] (defScope leaves_s) := ⟨rfl, rfl, rfl, by decide +kernel, rfl, by decide +kernel, by decide +kernel⟩
abbrev depth_s : Stmt := top 22
abbrev depth_N : List Str := ["shape", "part"]
theorem sc_depth : FnScope depth_N ["shape"] (defScope depth_s) := ⟨rfl, rfl, rfl, by decide +kernel, rfl, by decide +kernel, by decide +kernel⟩
abbrev contrary_s : Stmt := top 23
abbrev contrary_N : List Str := ["shape", "parts", "part"]
theorem sc_contrary : FnScope contrary_N ["shape"] (defScope contrary_s) := ⟨rfl, rfl, rfl, by decide +kernel, rfl, by decide +kernel, by decide +kernel⟩
abbrev stands_in_s : Stmt := top 24
abbrev stands_in_N : List Str := ["shape", "houses", "part"]
theorem sc_stands_in : FnScope stands_in_N ["shape", "houses"] (defScope stands_in_s) := ⟨rfl, rfl, rfl, by decide +kernel, rfl, by decide +kernel, by decide +kernel⟩
abbrev are_houses_s : Stmt := top 25
abbrev are_houses_N : List Str := ["members", "value", "unlike", "house"]
theorem sc_are_houses : FnScope are_houses_N ["members", "value"] (defScope are_houses_s) := ⟨rfl, rfl, rfl, by decide +kernel, rfl, by decide +kernel, by decide +kernel⟩
abbrev Tree_init_s : Stmt := inClass (top 26) 0
abbrev Tree_init_N : List Str := ["self", "shape", "house"]
theorem sc_Tree_init : FnScope Tree_init_N ["self", "shape"] (defScope Tree_init_s) := ⟨rfl, rfl, rfl, by decide +kernel, rfl, by decide +kernel, by decide +kernel⟩
abbrev Tree_shape_s : Stmt := inClass (top 26) 2
abbrev Tree_shape_N : List Str := ["self"]
theorem sc_Tree_shape : FnScope Tree_shape_N ["self"] (defScope Tree_shape_s) := ⟨rfl, rfl, rfl, by decide +kernel, rfl, by decide +kernel, by decide +kernel⟩
abbrev Tree_is_plain_s : Stmt := inClass (top 26) 3
abbrev Tree_is_plain_N : List Str := ["self"]
theorem sc_Tree_is_plain : FnScope Tree_is_plain_N ["self"] (defScope Tree_is_plain_s) := ⟨rfl, rfl, rfl, by decide +kernel, rfl, by decide +kernel, by decide +kernel⟩
abbrev Tree_members_s : Stmt := inClass (top 26) 4
abbrev Tree_members_N : List Str := ["self"]
theorem sc_Tree_members : FnScope Tree_members_N ["self"] (defScope Tree_members_s) := ⟨rfl, rfl, rfl, by decide +kernel, rfl, by decide +kernel, by decide +kernel⟩
abbrev Tree_stands_s : Stmt := inClass (top 26) 5
abbrev Tree_stands_N : List Str := ["self", "houses"]
theorem sc_Tree_stands : FnScope Tree_stands_N ["self", "houses"] (defScope Tree_stands_s) := ⟨rfl, rfl, rfl, by decide +kernel, rfl, by decide +kernel, by decide +kernel⟩
abbrev Tree_invert_s : Stmt := inClass (top 26) 8
abbrev Tree_invert_N : List Str := ["self"]
theorem sc_Tree_invert : FnScope Tree_invert_N ["self"] (defScope Tree_invert_s) := ⟨rfl, rfl, rfl, by decide +kernel, rfl, by decide +kernel, by decide +kernel⟩
abbrev Tree_eq_s : Stmt := inClass (top 26) 11
abbrev Tree_eq_N : List Str := ["self", "other"]
theorem sc_Tree_eq : FnScope Tree_eq_N ["self", "other"] (defScope Tree_eq_s) := ⟨rfl, rfl, rfl, by decide +kernel, rfl, by decide +kernel, by decide +kernel⟩
abbrev lists_of_s : Stmt := top 30
abbrev lists_of_N : List Str := ["houses", "found", "house", "some"]
theorem sc_lists_of : FnScope lists_of_N ["houses"] (defScope lists_of_s) := ⟨rfl, rfl, rfl, by decide +kernel, rfl, by decide +kernel, by decide +kernel⟩
abbrev stands_barely_s : Stmt := top 31
abbrev stands_barely_N : List Str := ["shape", "houses", "house", "other"]
theorem sc_stands_barely : FnScope stands_barely_N ["shape", "houses"] (defScope stands_barely_s) := ⟨rfl, rfl, rfl, by decide +kernel, rfl, by decide +kernel, by decide +kernel⟩
abbrev mixed_meetings_s : Stmt := top 32
abbrev mixed_meetings_N : List Str := ["tree", "shape", "houses"]
theorem sc_mixed_meetings : FnScope mixed_meetings_N ["tree"] (defScope mixed_meetings_s) := ⟨rfl, rfl, rfl, by decide +kernel, rfl, by decide +kernel, by decide +kernel⟩
abbrev plain_count_s : Stmt := top 33
abbrev plain_count_N : List Str := ["shape", "counts", "part", "many", "former", "count"]
theorem sc_plain_count : FnScope plain_count_N ["shape"] (defScope plain_count_s) := ⟨rfl, rfl, rfl, by decide +kernel, rfl, by decide +kernel, by decide +kernel⟩
abbrev how_many_s : Stmt := top 34
abbrev how_many_N : List Str := ["tree"]
theorem sc_how_many : FnScope how_many_N ["tree"] (defScope how_many_s) := ⟨rfl, rfl, rfl, by decide +kernel, rfl, by decide +kernel, by decide +kernel⟩
abbrev product_of_s : Stmt := top 35
abbrev product_of_N : List Str := ["one", "other", "found", "size", "many", "more", "times"]
theorem sc_product_of : FnScope product_of_N ["one", "other"] (defScope product_of_s) := ⟨rfl, rfl, rfl, by decide +kernel, rfl, by decide +kernel, by decide +kernel⟩
abbrev sum_of_s : Stmt := top 36
abbrev sum_of_N : List Str := ["lists", "numbers"]
theorem sc_sum_of : FnScope sum_of_N ["lists"] (defScope sum_of_s) := ⟨rfl, rfl, rfl, by decide +kernel, rfl, by decide +kernel, by decide +kernel⟩
abbrev plain_sizes_s : Stmt := top 37
abbrev plain_sizes_N : List Str := ["shape", "by_standing", "part", "standing_ones", "other_ones", "with_part", "rest", "nothing", "numbers", "one", "other"]
theorem sc_plain_sizes : FnScope plain_sizes_N ["shape"] (defScope plain_sizes_s) := ⟨rfl, rfl, rfl, by decide +kernel, rfl, by decide +kernel, by decide +kernel⟩
abbrev standing_s : Stmt := top 38
abbrev standing_N : List Str := ["tree", "shape", "found", "houses"]
theorem sc_standing : FnScope standing_N ["tree"] (defScope standing_s) := ⟨rfl, rfl, rfl, by decide +kernel, rfl, by decide +kernel, by decide +kernel⟩
abbrev unions_s : Stmt := top 39
abbrev unions_N : List Str := ["choices", "need", "rest", "some", "more"]
theorem sc_unions : FnScope unions_N ["choices", "need"] (defScope unions_s) := ⟨rfl, rfl, rfl, by decide +kernel, rfl, by decide +kernel, by decide +kernel⟩
abbrev plain_meetings_s : Stmt := top 40
abbrev plain_meetings_N : List Str := ["shape", "part"]
theorem sc_plain_meetings : FnScope plain_meetings_N ["shape"] (defScope plain_meetings_s) := ⟨rfl, rfl, rfl, by decide +kernel, rfl, by decide +kernel, by decide +kernel⟩
abbrev meetings_within_s : Stmt := top 41
abbrev meetings_within_N : List Str := ["tree", "what", "limit", "houses"]
theorem sc_meetings_within : FnScope meetings_within_N ["tree", "what", "limit"] (defScope meetings_within_s) := ⟨rfl, rfl, rfl, by decide +kernel, rfl, by decide +kernel, by decide +kernel⟩
abbrev meetings_s : Stmt := top 42
abbrev meetings_N : List Str := ["tree"]
theorem sc_meetings : FnScope meetings_N ["tree"] (defScope meetings_s) := ⟨rfl, rfl, rfl, by decide +kernel, rfl, by decide +kernel, by decide +kernel⟩
abbrev cuts_s : Stmt := top 43
abbrev cuts_N : List Str := ["tree"]
theorem sc_cuts : FnScope cuts_N ["tree"] (defScope cuts_s) := ⟨rfl, rfl, rfl, by decide +kernel, rfl, by decide +kernel, by decide +kernel⟩
abbrev is_meeting_s : Stmt := top 44
abbrev is_meeting_N : List Str := ["tree", "value"]
theorem sc_is_meeting : FnScope is_meeting_N ["tree", "value"] (defScope is_meeting_s) := ⟨rfl, rfl, rfl, by decide +kernel, rfl, by decide +kernel, by decide +kernel⟩
abbrev is_cut_s : Stmt := top 45
abbrev is_cut_N : List Str := ["tree", "value"]
theorem sc_is_cut : FnScope is_cut_N ["tree", "value"] (defScope is_cut_s) := ⟨rfl, rfl, rfl, by decide +kernel, rfl, by decide +kernel, by decide +kernel⟩
abbrev meeting_among_s : Stmt := top 46
abbrev meeting_among_N : List Str := ["tree", "houses", "kept", "house", "fewer", "other"]
theorem sc_meeting_among : FnScope meeting_among_N ["tree", "houses"] (defScope meeting_among_s) := ⟨rfl, rfl, rfl, by decide +kernel, rfl, by decide +kernel, by decide +kernel⟩
abbrev cut_among_s : Stmt := top 47
abbrev cut_among_N : List Str := ["tree", "houses"]
theorem sc_cut_among : FnScope cut_among_N ["tree", "houses"] (defScope cut_among_s) := ⟨rfl, rfl, rfl, by decide +kernel, rfl, by decide +kernel, by decide +kernel⟩
abbrev _law_pot_s : Stmt := top 49
abbrev _law_pot_N : List Str := ["_law_script", "_law_k", "_law_cell"]
theorem sc__law_pot : FnScope _law_pot_N ["_law_script", "_law_k"] (defScope _law_pot_s) := ⟨rfl, rfl, rfl, by decide +kernel, rfl, by decide +kernel, by decide +kernel⟩
abbrev _law_draw_s : Stmt := top 50
abbrev _law_draw_N : List Str := ["_law_pot_here", "_law_many", "_law_digit"]
theorem sc__law_draw : FnScope _law_draw_N ["_law_pot_here", "_law_many"] (defScope _law_draw_s) := ⟨rfl, rfl, rfl, by decide +kernel, rfl, by decide +kernel, by decide +kernel⟩
abbrev _law_pick_s : Stmt := top 51
abbrev _law_pick_N : List Str := ["_law_pot_here", "_law_menu"]
theorem sc__law_pick : FnScope _law_pick_N ["_law_pot_here", "_law_menu"] (defScope _law_pick_s) := ⟨rfl, rfl, rfl, by decide +kernel, rfl, by decide +kernel, by decide +kernel⟩
abbrev _law_mixed_s : Stmt := top 52
abbrev _law_mixed_N : List Str := ["_law_pot_here", "_law_some", "_law_left", "_law_found"]
theorem sc__law_mixed : FnScope _law_mixed_N ["_law_pot_here", "_law_some"] (defScope _law_mixed_s) := ⟨rfl, rfl, rfl, by decide +kernel, rfl, by decide +kernel, by decide +kernel⟩
abbrev _law_names_s : Stmt := top 53
abbrev _law_names_N : List Str := ["_law_pot_here", "_law_many"]
theorem sc__law_names : FnScope _law_names_N ["_law_pot_here", "_law_many"] (defScope _law_names_s) := ⟨rfl, rfl, rfl, by decide +kernel, rfl, by decide +kernel, by decide +kernel⟩
abbrev _law_parted_s : Stmt := top 54
abbrev _law_parted_N : List Str := ["_law_pot_here", "_law_tags", "_law_many", "_law_found", "_law_name"]
theorem sc__law_parted : FnScope _law_parted_N ["_law_pot_here", "_law_tags"] (defScope _law_parted_s) := ⟨rfl, rfl, rfl, by decide +kernel, rfl, by decide +kernel, by decide +kernel⟩
abbrev _law_plain_s : Stmt := top 55
abbrev _law_plain_N : List Str := ["_law_pot_here", "_law_tags", "_law_deep", "_law_parts", "_law_part"]
theorem sc__law_plain : FnScope _law_plain_N ["_law_pot_here", "_law_tags", "_law_deep"] (defScope _law_plain_s) := ⟨rfl, rfl, rfl, by decide +kernel, rfl, by decide +kernel, by decide +kernel⟩
abbrev _law_any_s : Stmt := top 56
abbrev _law_any_N : List Str := ["_law_pot_here", "_law_tags", "_law_deep", "_law_parts", "_law_turn"]
theorem sc__law_any : FnScope _law_any_N ["_law_pot_here", "_law_tags", "_law_deep"] (defScope _law_any_s) := ⟨rfl, rfl, rfl, by decide +kernel, rfl, by decide +kernel, by decide +kernel⟩
abbrev _law_shape_s : Stmt := top 57
abbrev _law_shape_N : List Str := ["_law_pot_here", "_law_most", "_law_tags"]
theorem sc__law_shape : FnScope _law_shape_N ["_law_pot_here", "_law_most"] (defScope _law_shape_s) := ⟨rfl, rfl, rfl, by decide +kernel, rfl, by decide +kernel, by decide +kernel⟩
abbrev _law_leaves_s : Stmt := top 58
abbrev _law_leaves_N : List Str := ["_law_sketch", "_law_found", "_law_part"]
theorem sc__law_leaves : FnScope _law_leaves_N ["_law_sketch"] (defScope _law_leaves_s) := ⟨rfl, rfl, rfl, by decide +kernel, rfl, by decide +kernel, by decide +kernel⟩
abbrev _law_houses_s : Stmt := top 59
abbrev _law_houses_N : List Str := ["_law_sketch"]
theorem sc__law_houses : FnScope _law_houses_N ["_law_sketch"] (defScope _law_houses_s) := ⟨rfl, rfl, rfl, by decide +kernel, rfl, by decide +kernel, by decide +kernel⟩
abbrev _law_stands_s : Stmt := top 60
abbrev _law_stands_N : List Str := ["_law_sketch", "_law_some", "_law_part"]
theorem sc__law_stands : FnScope _law_stands_N ["_law_sketch", "_law_some"] (defScope _law_stands_s) := ⟨rfl, rfl, rfl, by decide +kernel, rfl, by decide +kernel, by decide +kernel⟩
abbrev _law_turned_s : Stmt := top 61
abbrev _law_turned_N : List Str := ["_law_sketch", "_law_part"]
theorem sc__law_turned : FnScope _law_turned_N ["_law_sketch"] (defScope _law_turned_s) := ⟨rfl, rfl, rfl, by decide +kernel, rfl, by decide +kernel, by decide +kernel⟩
abbrev _law_lists_s : Stmt := top 62
abbrev _law_lists_N : List Str := ["_law_some", "_law_found", "_law_near", "_law_part", "_law_size"]
theorem sc__law_lists : FnScope _law_lists_N ["_law_some"] (defScope _law_lists_s) := ⟨rfl, rfl, rfl, by decide +kernel, rfl, by decide +kernel, by decide +kernel⟩
abbrev _law_meetings_s : Stmt := top 63
abbrev _law_meetings_N : List Str := ["_law_sketch", "_law_found", "_law_some", "_law_known", "_law_less", "_law_near"]
theorem sc__law_meetings : FnScope _law_meetings_N ["_law_sketch"] (defScope _law_meetings_s) := ⟨rfl, rfl, rfl, by decide +kernel, rfl, by decide +kernel, by decide +kernel⟩
abbrev _law_cuts_s : Stmt := top 64
abbrev _law_cuts_N : List Str := ["_law_sketch"]
theorem sc__law_cuts : FnScope _law_cuts_N ["_law_sketch"] (defScope _law_cuts_s) := ⟨rfl, rfl, rfl, by decide +kernel, rfl, by decide +kernel, by decide +kernel⟩
abbrev _law_common_s : Stmt := top 65
abbrev _law_common_N : List Str := ["_law_here", "_law_there", "_law_near"]
theorem sc__law_common : FnScope _law_common_N ["_law_here", "_law_there"] (defScope _law_common_s) := ⟨rfl, rfl, rfl, by decide +kernel, rfl, by decide +kernel, by decide +kernel⟩
abbrev _law_numbers_right_s : Stmt := top 66
abbrev _law_numbers_right_N : List Str := ["_law_plant", "_law_sketch", "_law_tags", "_law_near", "_law_far", "_law_sizes_now", "_law_some", "_law_told", "_law_due", "_law_both", "_law_row", "_law_turn", "_law_here", "_law_there"]
theorem sc__law_numbers_right : FnScope _law_numbers_right_N ["_law_plant", "_law_sketch", "_law_tags", "_law_near", "_law_far"] (defScope _law_numbers_right_s) := ⟨rfl, rfl, rfl, by decide +kernel, rfl, by decide +kernel, by decide +kernel⟩
abbrev _law_judged_right_s : Stmt := top 67
abbrev _law_judged_right_N : List Str := ["_law_pot_here", "_law_plant", "_law_tags", "_law_near", "_law_far", "_law_some", "_law_things", "_law_turn", "_law_thing", "_law_is_list", "_law_dues", "_law_shown", "_law_told", "_law_name", "_law_part", "_law_row"]
theorem sc__law_judged_right : FnScope _law_judged_right_N ["_law_pot_here", "_law_plant", "_law_tags", "_law_near", "_law_far"] (defScope _law_judged_right_s) := ⟨rfl, rfl, rfl, by decide +kernel, rfl, by decide +kernel, by decide +kernel⟩
abbrev _law_is_in_s : Stmt := top 68
abbrev _law_is_in_N : List Str := ["_law_rows_now", "_law_some", "_law_told", "_law_name"]
theorem sc__law_is_in : FnScope _law_is_in_N ["_law_rows_now", "_law_some", "_law_told"] (defScope _law_is_in_s) := ⟨rfl, rfl, rfl, by decide +kernel, rfl, by decide +kernel, by decide +kernel⟩
abbrev _law_among_right_s : Stmt := top 69
abbrev _law_among_right_N : List Str := ["_law_plant", "_law_sketch", "_law_tags", "_law_near", "_law_far", "_law_some", "_law_rest", "_law_handed", "_law_over", "_law_told", "_law_there", "_law_name"]
theorem sc__law_among_right : FnScope _law_among_right_N ["_law_plant", "_law_sketch", "_law_tags", "_law_near", "_law_far"] (defScope _law_among_right_s) := ⟨rfl, rfl, rfl, by decide +kernel, rfl, by decide +kernel, by decide +kernel⟩
abbrev _law_right_s : Stmt := top 70
abbrev _law_right_N : List Str := ["_law_pot_here", "_law_sketch", "_law_plant", "_law_tags", "_law_near", "_law_far", "_law_turn", "_law_told", "_law_rows_now", "_law_here", "_law_there"]
theorem sc__law_right : FnScope _law_right_N ["_law_pot_here"] (defScope _law_right_s) := ⟨rfl, rfl, rfl, by decide +kernel, rfl, by decide +kernel, by decide +kernel⟩
abbrev law_s : Stmt := top 71
abbrev law_N : List Str := ["_law_script", "_law_k"]
theorem sc_law : FnScope law_N ["_law_script"] (defScope law_s) := ⟨rfl, rfl, rfl, by decide +kernel, rfl, by decide +kernel, by decide +kernel⟩
structure Txt (K : PySem.W.Frag) (mg : Str → Option Value) (a : Nat → Addr) (fd : Nat → FuncData) (C : Addr) (tk : Nat → Tok) : Prop where
  F_is_integer : Fun K "is_integer" "is_integer" is_integer_s (a 0) (fd 0)
  m_is_integer : mg "is_integer" = some (.ref (a 0))
  b_is_integer : Binds K (fd 0) ["value"] []
  F_is_count : Fun K "is_count" "is_count" is_count_s (a 1) (fd 1)
  m_is_count : mg "is_count" = some (.ref (a 1))
  b_is_count : Binds K (fd 1) ["value"] []
  F_is_list : Fun K "is_list" "is_list" is_list_s (a 2) (fd 2)
  m_is_list : mg "is_list" = some (.ref (a 2))
  b_is_list : Binds K (fd 2) ["value"] []
  F_is_number_below : Fun K "is_number_below" "is_number_below" is_number_below_s (a 3) (fd 3)
  m_is_number_below : mg "is_number_below" = some (.ref (a 3))
  b_is_number_below : Binds K (fd 3) ["value", "many"] []
  F_is_gate : Fun K "is_gate" "is_gate" is_gate_s (a 4) (fd 4)
  m_is_gate : mg "is_gate" = some (.ref (a 4))
  b_is_gate : Binds K (fd 4) ["value"] []
  F_is_tree : Fun K "is_tree" "is_tree" is_tree_s (a 5) (fd 5)
  m_is_tree : mg "is_tree" = some (.ref (a 5))
  b_is_tree : Binds K (fd 5) ["value"] []
  F_firm : Fun K "firm" "firm" firm_s (a 6) (fd 6)
  m_firm : mg "firm" = some (.ref (a 6))
  b_firm : Binds K (fd 6) ["shape"] []
  F_listed : Fun K "listed" "listed" listed_s (a 7) (fd 7)
  m_listed : mg "listed" = some (.ref (a 7))
  b_listed : Binds K (fd 7) ["shape"] []
  F_leaves : Fun K "leaves" "leaves" leaves_s (a 8) (fd 8)
  m_leaves : mg "leaves" = some (.ref (a 8))
  b_leaves : Binds K (fd 8) ["shape"] []
  F_depth : Fun K "depth" "depth" depth_s (a 9) (fd 9)
  m_depth : mg "depth" = some (.ref (a 9))
  b_depth : Binds K (fd 9) ["shape"] []
  F_contrary : Fun K "contrary" "contrary" contrary_s (a 10) (fd 10)
  m_contrary : mg "contrary" = some (.ref (a 10))
  b_contrary : Binds K (fd 10) ["shape"] []
  F_stands_in : Fun K "stands_in" "stands_in" stands_in_s (a 11) (fd 11)
  m_stands_in : mg "stands_in" = some (.ref (a 11))
  b_stands_in : Binds K (fd 11) ["shape", "houses"] []
  F_are_houses : Fun K "are_houses" "are_houses" are_houses_s (a 12) (fd 12)
  m_are_houses : mg "are_houses" = some (.ref (a 12))
  b_are_houses : Binds K (fd 12) ["members", "value"] []
  F_Tree_init : Fun K "__init__" "Tree.__init__" Tree_init_s (a 13) (fd 13)
  b_Tree_init : Binds K (fd 13) ["self", "shape"] []
  F_Tree_shape : Fun K "shape" "Tree.shape" Tree_shape_s (a 14) (fd 14)
  b_Tree_shape : Binds K (fd 14) ["self"] []
  F_Tree_is_plain : Fun K "is_plain" "Tree.is_plain" Tree_is_plain_s (a 15) (fd 15)
  b_Tree_is_plain : Binds K (fd 15) ["self"] []
  F_Tree_members : Fun K "members" "Tree.members" Tree_members_s (a 16) (fd 16)
  b_Tree_members : Binds K (fd 16) ["self"] []
  F_Tree_stands : Fun K "stands" "Tree.stands" Tree_stands_s (a 17) (fd 17)
  b_Tree_stands : Binds K (fd 17) ["self", "houses"] []
  F_Tree_invert : Fun K "__invert__" "Tree.__invert__" Tree_invert_s (a 18) (fd 18)
  b_Tree_invert : Binds K (fd 18) ["self"] []
  F_Tree_eq : Fun K "__eq__" "Tree.__eq__" Tree_eq_s (a 19) (fd 19)
  b_Tree_eq : Binds K (fd 19) ["self", "other"] []
  F_lists_of : Fun K "lists_of" "lists_of" lists_of_s (a 20) (fd 20)
  m_lists_of : mg "lists_of" = some (.ref (a 20))
  b_lists_of : Binds K (fd 20) ["houses"] []
  F_stands_barely : Fun K "stands_barely" "stands_barely" stands_barely_s (a 21) (fd 21)
  m_stands_barely : mg "stands_barely" = some (.ref (a 21))
  b_stands_barely : Binds K (fd 21) ["shape", "houses"] []
  F_mixed_meetings : Fun K "mixed_meetings" "mixed_meetings" mixed_meetings_s (a 22) (fd 22)
  m_mixed_meetings : mg "mixed_meetings" = some (.ref (a 22))
  b_mixed_meetings : Binds K (fd 22) ["tree"] []
  F_plain_count : Fun K "plain_count" "plain_count" plain_count_s (a 23) (fd 23)
  m_plain_count : mg "plain_count" = some (.ref (a 23))
  b_plain_count : Binds K (fd 23) ["shape"] []
  F_how_many : Fun K "how_many" "how_many" how_many_s (a 24) (fd 24)
  m_how_many : mg "how_many" = some (.ref (a 24))
  b_how_many : Binds K (fd 24) ["tree"] []
  F_product_of : Fun K "product_of" "product_of" product_of_s (a 25) (fd 25)
  m_product_of : mg "product_of" = some (.ref (a 25))
  b_product_of : Binds K (fd 25) ["one", "other"] []
  F_sum_of : Fun K "sum_of" "sum_of" sum_of_s (a 26) (fd 26)
  m_sum_of : mg "sum_of" = some (.ref (a 26))
  b_sum_of : Binds K (fd 26) ["lists"] []
  F_plain_sizes : Fun K "plain_sizes" "plain_sizes" plain_sizes_s (a 27) (fd 27)
  m_plain_sizes : mg "plain_sizes" = some (.ref (a 27))
  b_plain_sizes : Binds K (fd 27) ["shape"] []
  F_standing : Fun K "standing" "standing" standing_s (a 28) (fd 28)
  m_standing : mg "standing" = some (.ref (a 28))
  b_standing : Binds K (fd 28) ["tree"] []
  F_unions : Fun K "unions" "unions" unions_s (a 29) (fd 29)
  m_unions : mg "unions" = some (.ref (a 29))
  b_unions : Binds K (fd 29) ["choices", "need"] []
  F_plain_meetings : Fun K "plain_meetings" "plain_meetings" plain_meetings_s (a 30) (fd 30)
  m_plain_meetings : mg "plain_meetings" = some (.ref (a 30))
  b_plain_meetings : Binds K (fd 30) ["shape"] []
  F_meetings_within : Fun K "meetings_within" "meetings_within" meetings_within_s (a 31) (fd 31)
  m_meetings_within : mg "meetings_within" = some (.ref (a 31))
  b_meetings_within : Binds K (fd 31) ["tree", "what", "limit"] []
  F_meetings : Fun K "meetings" "meetings" meetings_s (a 32) (fd 32)
  m_meetings : mg "meetings" = some (.ref (a 32))
  b_meetings : Binds K (fd 32) ["tree"] []
  F_cuts : Fun K "cuts" "cuts" cuts_s (a 33) (fd 33)
  m_cuts : mg "cuts" = some (.ref (a 33))
  b_cuts : Binds K (fd 33) ["tree"] []
  F_is_meeting : Fun K "is_meeting" "is_meeting" is_meeting_s (a 34) (fd 34)
  m_is_meeting : mg "is_meeting" = some (.ref (a 34))
  b_is_meeting : Binds K (fd 34) ["tree", "value"] []
  F_is_cut : Fun K "is_cut" "is_cut" is_cut_s (a 35) (fd 35)
  m_is_cut : mg "is_cut" = some (.ref (a 35))
  b_is_cut : Binds K (fd 35) ["tree", "value"] []
  F_meeting_among : Fun K "meeting_among" "meeting_among" meeting_among_s (a 36) (fd 36)
  m_meeting_among : mg "meeting_among" = some (.ref (a 36))
  b_meeting_among : Binds K (fd 36) ["tree", "houses"] []
  F_cut_among : Fun K "cut_among" "cut_among" cut_among_s (a 37) (fd 37)
  m_cut_among : mg "cut_among" = some (.ref (a 37))
  b_cut_among : Binds K (fd 37) ["tree", "houses"] []
  F__law_pot : Fun K "_law_pot" "_law_pot" _law_pot_s (a 38) (fd 38)
  m__law_pot : mg "_law_pot" = some (.ref (a 38))
  b__law_pot : Binds K (fd 38) ["_law_script", "_law_k"] []
  F__law_draw : Fun K "_law_draw" "_law_draw" _law_draw_s (a 39) (fd 39)
  m__law_draw : mg "_law_draw" = some (.ref (a 39))
  b__law_draw : Binds K (fd 39) ["_law_pot_here", "_law_many"] []
  F__law_pick : Fun K "_law_pick" "_law_pick" _law_pick_s (a 40) (fd 40)
  m__law_pick : mg "_law_pick" = some (.ref (a 40))
  b__law_pick : Binds K (fd 40) ["_law_pot_here", "_law_menu"] []
  F__law_mixed : Fun K "_law_mixed" "_law_mixed" _law_mixed_s (a 41) (fd 41)
  m__law_mixed : mg "_law_mixed" = some (.ref (a 41))
  b__law_mixed : Binds K (fd 41) ["_law_pot_here", "_law_some"] []
  F__law_names : Fun K "_law_names" "_law_names" _law_names_s (a 42) (fd 42)
  m__law_names : mg "_law_names" = some (.ref (a 42))
  b__law_names : Binds K (fd 42) ["_law_pot_here", "_law_many"] []
  F__law_parted : Fun K "_law_parted" "_law_parted" _law_parted_s (a 43) (fd 43)
  m__law_parted : mg "_law_parted" = some (.ref (a 43))
  b__law_parted : Binds K (fd 43) ["_law_pot_here", "_law_tags"] []
  F__law_plain : Fun K "_law_plain" "_law_plain" _law_plain_s (a 44) (fd 44)
  m__law_plain : mg "_law_plain" = some (.ref (a 44))
  b__law_plain : Binds K (fd 44) ["_law_pot_here", "_law_tags", "_law_deep"] []
  F__law_any : Fun K "_law_any" "_law_any" _law_any_s (a 45) (fd 45)
  m__law_any : mg "_law_any" = some (.ref (a 45))
  b__law_any : Binds K (fd 45) ["_law_pot_here", "_law_tags", "_law_deep"] []
  F__law_shape : Fun K "_law_shape" "_law_shape" _law_shape_s (a 46) (fd 46)
  m__law_shape : mg "_law_shape" = some (.ref (a 46))
  b__law_shape : Binds K (fd 46) ["_law_pot_here", "_law_most"] []
  F__law_leaves : Fun K "_law_leaves" "_law_leaves" _law_leaves_s (a 47) (fd 47)
  m__law_leaves : mg "_law_leaves" = some (.ref (a 47))
  b__law_leaves : Binds K (fd 47) ["_law_sketch"] []
  F__law_houses : Fun K "_law_houses" "_law_houses" _law_houses_s (a 48) (fd 48)
  m__law_houses : mg "_law_houses" = some (.ref (a 48))
  b__law_houses : Binds K (fd 48) ["_law_sketch"] []
  F__law_stands : Fun K "_law_stands" "_law_stands" _law_stands_s (a 49) (fd 49)
  m__law_stands : mg "_law_stands" = some (.ref (a 49))
  b__law_stands : Binds K (fd 49) ["_law_sketch", "_law_some"] []
  F__law_turned : Fun K "_law_turned" "_law_turned" _law_turned_s (a 50) (fd 50)
  m__law_turned : mg "_law_turned" = some (.ref (a 50))
  b__law_turned : Binds K (fd 50) ["_law_sketch"] []
  F__law_lists : Fun K "_law_lists" "_law_lists" _law_lists_s (a 51) (fd 51)
  m__law_lists : mg "_law_lists" = some (.ref (a 51))
  b__law_lists : Binds K (fd 51) ["_law_some"] []
  F__law_meetings : Fun K "_law_meetings" "_law_meetings" _law_meetings_s (a 52) (fd 52)
  m__law_meetings : mg "_law_meetings" = some (.ref (a 52))
  b__law_meetings : Binds K (fd 52) ["_law_sketch"] []
  F__law_cuts : Fun K "_law_cuts" "_law_cuts" _law_cuts_s (a 53) (fd 53)
  m__law_cuts : mg "_law_cuts" = some (.ref (a 53))
  b__law_cuts : Binds K (fd 53) ["_law_sketch"] []
  F__law_common : Fun K "_law_common" "_law_common" _law_common_s (a 54) (fd 54)
  m__law_common : mg "_law_common" = some (.ref (a 54))
  b__law_common : Binds K (fd 54) ["_law_here", "_law_there"] []
  F__law_numbers_right : Fun K "_law_numbers_right" "_law_numbers_right" _law_numbers_right_s (a 55) (fd 55)
  m__law_numbers_right : mg "_law_numbers_right" = some (.ref (a 55))
  b__law_numbers_right : Binds K (fd 55) ["_law_plant", "_law_sketch", "_law_tags", "_law_near", "_law_far"] []
  F__law_judged_right : Fun K "_law_judged_right" "_law_judged_right" _law_judged_right_s (a 56) (fd 56)
  m__law_judged_right : mg "_law_judged_right" = some (.ref (a 56))
  b__law_judged_right : Binds K (fd 56) ["_law_pot_here", "_law_plant", "_law_tags", "_law_near", "_law_far"] []
  F__law_is_in : Fun K "_law_is_in" "_law_is_in" _law_is_in_s (a 57) (fd 57)
  m__law_is_in : mg "_law_is_in" = some (.ref (a 57))
  b__law_is_in : Binds K (fd 57) ["_law_rows_now", "_law_some", "_law_told"] []
  F__law_among_right : Fun K "_law_among_right" "_law_among_right" _law_among_right_s (a 58) (fd 58)
  m__law_among_right : mg "_law_among_right" = some (.ref (a 58))
  b__law_among_right : Binds K (fd 58) ["_law_plant", "_law_sketch", "_law_tags", "_law_near", "_law_far"] []
  F__law_right : Fun K "_law_right" "_law_right" _law_right_s (a 59) (fd 59)
  m__law_right : mg "_law_right" = some (.ref (a 59))
  b__law_right : Binds K (fd 59) ["_law_pot_here"] []
  F_law : Fun K "law" "law" law_s (a 60) (fd 60)
  m_law : mg "law" = some (.ref (a 60))
  b_law : Binds K (fd 60) ["_law_script"] []
  m_HOUSES : mg "HOUSES" = some (.int 24 (tk 0))
  m_MOST_LEAVES : mg "MOST_LEAVES" = some (.int 24 (tk 1))
  m_MOST_DEPTH : mg "MOST_DEPTH" = some (.int 5 (tk 2))
  m_MOST_MIXED : mg "MOST_MIXED" = some (.int 8 (tk 3))
  m_MOST_MEETINGS : mg "MOST_MEETINGS" = some (.int 200 (tk 4))
  m_MOST_CUTS : mg "MOST_CUTS" = some (.int 200 (tk 5))
  z_isinstance : mg "isinstance" = none
  z_int : mg "int" = none
  z_bool : mg "bool" = none
  z_list : mg "list" = none
  z_tuple : mg "tuple" = none
  z_len : mg "len" = none
  z_str : mg "str" = none
  z_max : mg "max" = none
  z_all : mg "all" = none
  z_range : mg "range" = none
  z_property : mg "property" = none
  z_any : mg "any" = none
  z_sorted : mg "sorted" = none
  z_zip : mg "zip" = none
  z_enumerate : mg "enumerate" = none
  z_sum : mg "sum" = none
  z_abs : mg "abs" = none
  z_divmod : mg "divmod" = none
  z_min : mg "min" = none
  z_set : mg "set" = none
  z_repr : mg "repr" = none
  z_dict : mg "dict" = none
end K31

set_option maxRecDepth 100000
set_option maxHeartbeats 4000000
namespace K31
open PySem PySem.Spec PyProof.Rows L2 Kh
section
variable {P : Program} {w : World} {K : PySem.W.Frag} {mg : Str → Option Value} {base : Heap} {a : Nat → Addr} {fd : Nat → FuncData} {C : Addr} {tk : Nat → Tok}
abbrev spIsInteger (K : PySem.W.Frag) : Sp := spP K d1 (fun _ => True) fun d => .bool (isIntD d)
theorem ok_is_integer (T : Txt K mg a fd C tk) : FnOk P w K mg base CX0 1 (a 0) (fd 0) ["value"] (spIsInteger K) := by
  refine T.F_is_integer.ok sc_is_integer (fun vs H Q E h => spP_len (fun _ => rfl) h) (fun cdv A outer s H vs Q E hr h => ?_)
  obtain ⟨S, d, kn, hd, -, q⟩ := h
  obtain - | ⟨hd, ⟨⟩⟩ := hd
  rename_i v
  refine ⟨_, (pss_one (ps_ret (pe_and (pe_callB call_isi (by rfl) T.z_isinstance (by decide +kernel) (pa_cons (pv 0) (pa_cons (pe_bltn (v := .ty "int") (by rfl) T.z_int (by decide +kernel) rfl) pa_nil))) (pe_one (pe_not (pe_callB call_isi (by rfl) T.z_isinstance (by decide +kernel) (pa_cons (pv 0) (pa_cons (pe_bltn (v := .ty "bool") (by rfl) T.z_bool (by decide +kernel) rfl) pa_nil)))))))), ?_⟩
  have fin : ∀ b, isIntD d = b → Q (.bl b) H := fun b e => q _ _ (Same.refl H) (by subst e; exact .bl _)
  refine s_ret (t_andV (t_cb2 (t_var rfl (t_c (isi_d off_sub hd (kit_int d) (bl_if (fun c => ?_) (fun c => ?_)))))))
  · refine t_notV (t_cb2 (t_var rfl (t_c (isi_d off_sub hd (kit_bool d) ⟨_, rfl, fin _ ?_⟩))))
    cases d <;> first | rfl | cases c
  · exact fin _ (by cases d <;> first | rfl | cases c)
abbrev spIsCount (K : PySem.W.Frag) : Sp := spP K d1 (fun _ => True) fun d => .bool (isCountD d)
theorem ok_is_count (T : Txt K mg a fd C tk) : FnOk P w K mg base CX0 2 (a 1) (fd 1) ["value"] (spIsCount K) := by
  have G_is_integer : FnOk P w K mg base CX0 1 (a 0) (fd 0) ["value"] (spIsInteger K) := ok_is_integer T
  refine T.F_is_count.ok sc_is_count (fun vs H Q E h => spP_len (fun _ => rfl) h) (fun cdv A outer s H vs Q E hr h => ?_)
  obtain ⟨S, d, kn, hd, -, q⟩ := h
  obtain - | ⟨hd, ⟨⟩⟩ := hd
  rename_i v
  refine ⟨_, (pss_one (ps_ret (pe_and (pe_call G_is_integer (hr.mono (by omega)) (by rfl) T.m_is_integer T.F_is_integer.kp T.b_is_integer .nil pass0 (pa_cons (pv 0) pa_nil)) (pe_one (pe_cmpR op_ge (pv 0) pe_int (nomark _)))))), ?_⟩
  have fin : ∀ b H', isCountD d = b → Same H H' → Q (.bl b) H' := fun b H' e sm => q _ _ sm (by subst e; exact .bl _)
  refine s_ret (t_andV (t_call1 (t_var rfl (spP_bl off_sub d (.cons hd .nil) trivial rfl fun H' sm => bl_if (fun c => ?_) (fun c => fin _ _ (by cases d <;> first | rfl | cases c) sm)))))
  cases d with
  | int i =>
    cases hd
    exact t_op (t_var rfl (t_c ⟨_, _, rfl, rfl, fin _ _ rfl sm⟩))
  | _ => cases c
abbrev spIsList (K : PySem.W.Frag) : Sp := spP K d1 (fun _ => True) fun d => .bool (isListD d)
theorem ok_is_list (T : Txt K mg a fd C tk) : FnOk P w K mg base CX0 1 (a 2) (fd 2) ["value"] (spIsList K) := by
  refine T.F_is_list.ok sc_is_list (fun vs H Q E h => spP_len (fun _ => rfl) h) (fun cdv A outer s H vs Q E hr h => ?_)
  obtain ⟨S, d, kn, hd, -, q⟩ := h
  obtain - | ⟨hd, ⟨⟩⟩ := hd
  rename_i v
  refine ⟨_, (pss_one (ps_ret (pe_callB call_isiT (by rfl) T.z_isinstance (by decide +kernel) (pa_cons (pv 0) (pa_cons (pe_tup (pa_cons (pe_bltn (v := .ty "list") (by rfl) T.z_list (by decide +kernel) rfl) (pa_cons (pe_bltn (v := .ty "tuple") (by rfl) T.z_tuple (by decide +kernel) rfl) pa_nil))) pa_nil))))), ?_⟩
  refine ⟨v, rfl, by decide, fun p hp => ?_⟩
  exact isi2_d (off_sub.trans (same_new hp)) hd upd_same (kit_list d) (kit_tup d) (q _ _ (same_new hp) (.bl _))
abbrev spBelow (K : PySem.W.Frag) : Sp := spP K (fun x : PyData × Int => [x.1, .int x.2]) (fun _ => True) fun x => .bool (belowD x.2 x.1)
theorem ok_is_number_below (T : Txt K mg a fd C tk) : FnOk P w K mg base CX0 3 (a 3) (fd 3) ["value", "many"] (spBelow K) := by
  have G_is_count : FnOk P w K mg base CX0 2 (a 1) (fd 1) ["value"] (spIsCount K) := ok_is_count T
  refine T.F_is_number_below.ok sc_is_number_below (fun vs H Q E h => spP_len (fun _ => rfl) h) (fun cdv A outer s H vs Q E hr h => ?_)
  obtain ⟨S, ⟨d, m⟩, kn, hd, -, q⟩ := h
  obtain - | ⟨hd, - | ⟨⟨⟩, ⟨⟩⟩⟩ := hd
  rename_i v
  refine ⟨_, (pss_one (ps_ret (pe_and (pe_call G_is_count (hr.mono (by omega)) (by rfl) T.m_is_count T.F_is_count.kp T.b_is_count .nil pass0 (pa_cons (pv 0) pa_nil)) (pe_one (pe_cmpR op_lt (pv 0) (pv 1) (nomark _)))))), ?_⟩
  have fin : ∀ b H', belowD m d = b → Same H H' → Q (.bl b) H' := fun b H' e sm => q _ _ sm (by subst e; exact .bl _)
  refine s_ret (t_andV (t_call1 (t_var rfl (spP_bl off_sub d (.cons hd .nil) trivial rfl fun H' sm => bl_if (fun c => ?_) (fun c => fin _ _ ?_ sm)))))
  · cases d with
    | int i =>
      cases hd
      refine t_op (t_var rfl (t_var rfl ⟨_, _, rfl, rfl, fin _ _ ?_ sm⟩))
      show (decide (0 ≤ i) && decide (i < m)) = decide (i < m)
      rw [show decide (0 ≤ i) = true from c]; rfl
    | _ => cases c
  · cases d <;> first | rfl | skip
    rename_i i
    show (decide (0 ≤ i) && decide (i < m)) = false
    rw [show decide (0 ≤ i) = false from c]; rfl
end
end K31

set_option maxRecDepth 100000
set_option maxHeartbeats 4000000
namespace K31
open PySem PySem.Spec PyProof.Rows L2 Kh
section
variable {P : Program} {w : World} {K : PySem.W.Frag} {mg : Str → Option Value} {base : Heap} {a : Nat → Addr} {fd : Nat → FuncData} {C : Addr} {tk : Nat → Tok}
/-- a tree as it is handed in: right, with few leaves -/
def Sm (t : T) : Prop := Wf t ∧ (lv t).length ≤ 1000
theorem lv_pos : ∀ t, Wf t → 1 ≤ (lv t).length := T.ind (fun n _ => by rw [lv_leaf]; exact Nat.le_refl _) fun b k ps ih h => by
  obtain ⟨h1, h2, h3⟩ := (wf_gate b k ps).mp h
  cases ps with
  | nil => simp at h2; omega
  | cons p r =>
    rw [lv_gate, List.flatMap_cons, List.length_append]
    have := ih p List.mem_cons_self (h3 p List.mem_cons_self)
    omega
theorem lv_part {ps : List T} {p : T} (h : p ∈ ps) : (lv p).length ≤ (ps.flatMap lv).length := by
  induction ps with
  | nil => cases h
  | cons q r ih =>
    rw [List.flatMap_cons, List.length_append]
    rcases List.mem_cons.mp h with rfl | h
    · omega
    · have := ih h; omega
theorem len_lv : ∀ ps : List T, (∀ p ∈ ps, Wf p) → ps.length ≤ (ps.flatMap lv).length
  | [], _ => Nat.zero_le _
  | p :: r, h => by
    rw [List.flatMap_cons, List.length_append, List.length_cons]
    have h1 := lv_pos p (h p List.mem_cons_self)
    have h2 := len_lv r fun q hq => h q (List.mem_cons_of_mem _ hq)
    omega
theorem Sm.parts {b : Bool} {k : Nat} {ps : List T} (h : Sm (.gate b k ps)) : ∀ p ∈ ps, Sm p := fun p hp => by
  obtain ⟨h1, h2⟩ := h
  refine ⟨((wf_gate b k ps).mp h1).2.2 p hp, ?_⟩
  rw [lv_gate] at h2
  exact Nat.le_trans (lv_part hp) h2
theorem Sm.len {b : Bool} {k : Nat} {ps : List T} (h : Sm (.gate b k ps)) : ps.length ≤ 1000 := by
  obtain ⟨h1, h2⟩ := h
  rw [lv_gate] at h2
  exact Nat.le_trans (len_lv ps ((wf_gate b k ps).mp h1).2.2) h2
def t1 (t : T) : List PyData := [tD t]
def isGate : T → Bool | .leaf _ => false | .gate _ _ _ => true
abbrev spIsGate (K : PySem.W.Frag) : Sp := spP K t1 Wf fun t => .bool (isGate t)
theorem ok_is_gate (T : Txt K mg a fd C tk) : FnOk P w K mg base CX0 4 (a 4) (fd 4) ["value"] (spIsGate K) := by
  have G_is_list : FnOk P w K mg base CX0 1 (a 2) (fd 2) ["value"] (spIsList K) := ok_is_list T
  have G_is_count : FnOk P w K mg base CX0 2 (a 1) (fd 1) ["value"] (spIsCount K) := ok_is_count T
  refine T.F_is_gate.ok sc_is_gate (fun vs H Q E h => spP_len (fun _ => rfl) h) (fun cdv A outer s H vs Q E hr h => ?_)
  obtain ⟨S, t, kn, hd, wf, q⟩ := h
  obtain - | ⟨hd, ⟨⟩⟩ := hd
  rename_i v
  refine ⟨_, (pss_cons (ps_if (PW.pt (pw_or (pt_not (pt_val (pe_callB (k_isi (K := K)) (by rfl) T.z_isinstance (by decide +kernel) (pa_cons (pv 0) (pa_cons (pe_bltn (v := .ty "tuple") (by rfl) T.z_tuple (by decide +kernel) rfl) pa_nil))))) (pw_or1 (pt_cmpR op_ne (pe_callB (k_len (K := K)) (by rfl) T.z_len (by decide +kernel) (pa_cons (pv 0) pa_nil)) pe_int (nomark _)))))
        (pss_one (ps_ret pe_bl)) pss_nil)
      (pss_cons (ps_if (PW.pt (pw_or (pt_not (pt_val (pe_callB (k_isi (K := K)) (by rfl) T.z_isinstance (by decide +kernel) (pa_cons (pe_ix (k_ix (K := K)) (pv 0) pe_int (fun _ _ => rfl)) (pa_cons (pe_bltn (v := .ty "str") (by rfl) T.z_str (by decide +kernel) rfl) pa_nil))))) (pw_or1 (pt_cmpR op_ne (pe_ix (k_ix (K := K)) (pv 0) pe_int (fun _ _ => rfl)) pe_str (nomark _)))))
        (pss_one (ps_ret pe_bl)) pss_nil)
      (pss_one (ps_ret (pe_and (pe_call G_is_list (hr.mono (by omega)) (by rfl) T.m_is_list T.F_is_list.kp T.b_is_list .nil pass0 (pa_cons (pe_ix (k_ix (K := K)) (pv 0) pe_int (fun _ _ => rfl)) pa_nil)) (pe_and (pe_call G_is_count (hr.mono (by omega)) (by rfl) T.m_is_count T.F_is_count.kp T.b_is_count .nil pass0 (pa_cons (pe_ix (k_ix (K := K)) (pv 0) pe_int (fun _ _ => rfl)) pa_nil)) (pe_one (pe_chain op_le op_le pe_int (pe_ix (k_ix (K := K)) (pv 0) pe_int (fun _ _ => rfl)) (pe_callB (k_len (K := K)) (by rfl) T.z_len (by decide +kernel) (pa_cons (pe_ix (k_ix (K := K)) (pv 0) pe_int (fun _ _ => rfl)) pa_nil)))))))))), ?_⟩
  cases t with
  | leaf n =>
    rw [tD_leaf] at hd
    refine s_seq (s_if (b_or (b_not (b_val (t_cb2 (t_var rfl (t_c (isi_d off_sub hd (kit_tup _) ⟨_, rfl, ?_⟩))))))))
    exact ifT rfl (ifT rfl (s_ret (t_c (q _ _ (Same.refl H) (.bl _)))))
  | gate b k ps =>
    rw [tD_gate] at hd
    obtain ⟨k1, k2, _⟩ := (wf_gate b k ps).mp wf
    refine s_seq (s_if (b_or (b_not (b_val (t_cb2 (t_var rfl (t_c (isi_d off_sub hd (kit_tup _) ⟨_, rfl, ifF rfl ?_⟩))))))))
    refine b_test (t_op (t_cb1 (t_var rfl (len_d off_sub hd rfl (t_c ⟨rfl, _, rfl, ifF (by rfl) (s_next ?_)⟩)))))
    refine s_seq (s_if (b_or (b_not (b_val (t_cb2 (t_op (t_var rfl (t_c (ix_d (i := 0) off_sub hd rfl rfl fun u du => t_c (isi_d off_sub du (kit_str _) ⟨_, rfl, ifF rfl ?_⟩))))))))))
    refine b_test (t_op (t_op (t_var rfl (t_c (ix_d (i := 0) off_sub hd rfl rfl fun u du => ?_)))))
    cases du
    refine t_c ⟨rfl, _, rfl, ifF (by rfl) (s_next ?_)⟩
    refine s_ret (t_andV (t_call1 (t_op (t_var rfl (t_c (ix_d (i := 2) off_sub hd rfl rfl fun u du => spP_bl off_sub (sq b (ps.map tD)) (.cons du .nil) trivial rfl fun H1 s1 => ?_))))))
    refine bl_if (fun _ => ?_) (fun c => by cases b <;> cases c)
    refine t_andV (t_call1 (t_op (t_var rfl (t_c (ix_d (i := 1) (off_sub.trans s1) hd rfl rfl fun u du => spP_bl (off_sub.trans s1) (.int (k : Nat)) (.cons du .nil) trivial rfl fun H2 s2 => ?_)))))
    have s12 : Same H H2 := s1.trans s2
    refine bl_if (fun _ => ?_) (fun c => absurd c (by simp [isCountD]))
    refine t_c (t_op (t_var rfl (t_c (ix_d (i := 1) (off_sub.trans s12) hd rfl rfl fun u du => ?_))))
    cases du
    refine ⟨_, _, rfl, rfl, bl_if (fun _ => ?_) (fun c => absurd (show (1 : Int) ≤ (k : Nat) by omega) (of_decide_eq_false c))⟩
    refine t_cb1 (t_op (t_var rfl (t_c (ix_d (i := 2) (off_sub.trans s12) hd rfl rfl fun u du => len_d (off_sub.trans s12) du (items_sq b _) ⟨_, _, rfl, rfl, ?_⟩))))
    exact q _ H2 s12 (dp_bl (decide_eq_true (by simp; omega)))
end
end K31

set_option maxRecDepth 100000
set_option maxHeartbeats 4000000
namespace K31
open PySem PySem.Spec PyProof.Rows L2 Kh
section
variable {P : Program} {w : World} {K : PySem.W.Frag} {mg : Str → Option Value} {base : Heap} {a : Nat → Addr} {fd : Nat → FuncData} {C : Addr} {tk : Nat → Tok}
theorem at_ps {α : Type} {ps : List Kh.T} {g : Kh.T → α} {j : Nat} {d : α} (h : (ps.map g)[j]? = some d) : ∃ p, ps[j]? = some p ∧ p ∈ ps ∧ d = g p := by
  rw [List.getElem?_map] at h
  cases e : ps[j]? with
  | none => rw [e] at h; cases h
  | some p => rw [e] at h; exact ⟨p, rfl, List.mem_of_getElem? e, (Option.some.inj h).symm⟩
/-- the j-th part's own -/
def nth (ps : List Kh.T) (g : Kh.T → PyData) (j : Nat) : PyData := match ps[j]? with | some p => g p | none => .none
theorem nth_eq {ps : List Kh.T} {g : Kh.T → PyData} {j : Nat} {p : Kh.T} (h : ps[j]? = some p) : nth ps g j = g p := by unfold nth; rw [h]
theorem nth_map (ps : List Kh.T) (g h : Kh.T → PyData) : (List.range (ps.map h).length).map (nth ps g) = ps.map g := by
  rw [List.length_map]
  exact range_map fun i x e => nth_eq e
theorem dep_lt {d : Nat} {b : Bool} {k : Nat} {ps : List Kh.T} (h : dep (.gate b k ps) < d + 1) : ∀ p ∈ ps, dep p < d := fun p hp => by
  cases d with
  | zero => exact absurd (Nat.le_of_lt_succ h) (dep_gate0 b k ps)
  | succ d => exact Nat.lt_succ_of_le ((dep_gate b k ps).mp (Nat.le_of_lt_succ h) p hp)
theorem fn_none {k : Nat} {f : Addr} {fd : FuncData} {ps : List Str} {sp : Sp} (h : ∀ vs H Q E, sp vs H Q E → False) : FnOk P w K mg base CX0 k f fd ps sp :=
  ⟨fun vs H Q E q => (h vs H Q E q).elim, fun _ _ _ H _ _ vs Q E _ _ _ _ q => (h vs H Q E q).elim⟩
abbrev preT (d : Nat) (t : Kh.T) : Prop := Sm t ∧ dep t < d
theorem pre0 {f : Kh.T → PyData} {vs : List V} {H : Hp} {Q : VK} {E : XK} (h : spP K t1 (preT 0) f vs H Q E) : False := by
  obtain ⟨_, t, _, _, ⟨_, h⟩, _⟩ := h
  exact Nat.not_lt_zero _ h
abbrev spFirm (K : PySem.W.Frag) (d : Nat) : Sp := spP K t1 (preT d) fun t => tD (flg true t)
theorem ok_firm (T : Txt K mg a fd C tk) : ∀ d, FnOk P w K mg base CX0 (d + 1) (a 6) (fd 6) ["shape"] (spFirm K d)
  | 0 => fn_none fun _ _ _ _ => pre0
  | d + 1 => by
    have G_firm := ok_firm T d
    have G_is_integer : FnOk P w K mg base CX0 1 (a 0) (fd 0) ["value"] (spIsInteger K) := ok_is_integer T
    refine T.F_firm.ok sc_firm (fun vs H Q E h => spP_len (fun _ => rfl) h) (fun cdv A outer s H vs Q E hr h => ?_)
    obtain ⟨S, t, kn, hd, ⟨sm, dp⟩, q⟩ := h
    replace q : ∀ v H', Same H H' → Dp K (off S H') v (tD (flg true t)) → Q v H' := q
    obtain - | ⟨hd, ⟨⟩⟩ := hd
    rename_i v
    refine ⟨_, (pss_cons (ps_if (pt_val (pe_call G_is_integer (hr.mono (by omega)) (by rfl) T.m_is_integer T.F_is_integer.kp T.b_is_integer .nil pass0 (pa_cons (pv 0) pa_nil)))
        (pss_one (ps_ret (pv 0))) pss_nil)
      (pss_one (ps_ret (pe_tup (pa_cons pe_str (pa_cons (pe_ix (k_ix (K := K)) (pv 0) pe_int (fun _ _ => rfl)) (pa_cons (pe_callTy (k_tup (K := K)) (by rfl) T.z_tuple (by decide +kernel) (pa_cons (pe_lc (own := [("part", 1)]) (g := gName 1) (tt := tYes) rfl sc_firm.nd (k_pi (K := K) (pe_ix (k_ix (K := K)) (pv 0) pe_int (fun _ _ => rfl))) (blkOk_by (own := [("part", 1)]) (N := firm_N) (sc := defScope firm_s) (by decide +kernel)) (fun _ _ _ _ _ => (pg_name (i := 1) sc_firm.nd rfl (Or.inl rfl))) (fun _ _ _ _ _ => pts_nil) (fun _ _ _ _ _ => (pe_call G_firm (hr.mono (by omega)) (by rfl) T.m_firm T.F_firm.kp T.b_firm .nil pass0 (pa_cons (pv 1) pa_nil)))) pa_nil)) pa_nil))))))), ?_⟩
    cases t with
    | leaf n =>
      rw [flg_leaf] at q
      have hd' := hd
      rw [tD_leaf] at hd
      refine s_seq (s_if (b_val (t_call1 (t_var rfl (spP_bl off_sub _ (.cons hd .nil) trivial rfl fun H1 s1 => ⟨_, rfl, ifT rfl ?_⟩)))))
      exact s_ret (t_var rfl (q _ H1 s1 (dp_same (off_same s1) _ _ hd')))
    | gate b k ps =>
      rw [flg_gate, tD_gate] at q
      rw [tD_gate] at hd
      refine s_seq (s_if (b_val (t_call1 (t_var rfl (spP_bl off_sub _ (.cons hd .nil) trivial rfl fun H1 s1 => ⟨_, rfl, ifF rfl (s_next ?_)⟩)))))
      have kn1 := kn.same s1
      have hd1 := dp_same (off_same s1) _ _ hd
      refine s_ret (t_tup (a_cons (t_c (a_cons (t_op (t_var rfl (t_c (ix_d (i := 1) off_sub hd1 rfl rfl fun u du => ?_))))))))
      cases du
      refine a_cons (t_cb1 (lc_seq (b := b) (ds := ps.map tD) (nth ps fun p => tD (flg true p)) kn1 (fun Q q => t_op (t_var rfl (t_c (ix_d (i := 2) off_sub hd1 rfl rfl fun u du => q u _ (Same.refl _) du)))) (by rw [List.length_map]; exact Nat.le_trans sm.len (by decide)) (fun _ => rfl) (fun j x d H2 S' dj s2 kn2 dx hS hoff Q q => ?_) fun D H2 ys hD s2 hd2 h2 => ?_))
      · obtain ⟨p, pj, pm, rfl⟩ := at_ps dj
        refine t_call1 (t_var rfl ⟨S', p, kn2, .cons dx .nil, ⟨sm.parts p pm, dep_lt dp p pm⟩, fun v H' s' h => q v H' s' ?_⟩)
        rw [nth_eq pj]; exact h
      · rw [nth_map] at h2
        refine tup_d (kn1.same s2) h2 rfl fun u H3 s3 h3 => ⟨le3, fun p hp => ?_⟩
        refine q _ _ (((s1.trans s2).trans s3).trans (same_new hp)) ?_
        rw [List.map_map]
        exact dp_newT ((kn1.same s2).same s3) hp (.cons (.str _) (.cons (.int _) (.cons h3 .nil)))
end
end K31

set_option maxRecDepth 100000
set_option maxHeartbeats 4000000
namespace K31
open PySem PySem.Spec PyProof.Rows L2 Kh
section
variable {P : Program} {w : World} {K : PySem.W.Frag} {mg : Str → Option Value} {base : Heap} {a : Nat → Addr} {fd : Nat → FuncData} {C : Addr} {tk : Nat → Tok}
theorem len_ok {ps : List Kh.T} {g : Kh.T → PyData} {b : Bool} {k : Nat} (sm : Sm (.gate b k ps)) : (ps.map g).length ≤ 100000 := by rw [List.length_map]; exact Nat.le_trans sm.len (by decide)
abbrev spListed (K : PySem.W.Frag) (d : Nat) : Sp := spP K t1 (preT d) fun t => tD (flg false t)
theorem ok_listed (T : Txt K mg a fd C tk) : ∀ d, FnOk P w K mg base CX0 (d + 1) (a 7) (fd 7) ["shape"] (spListed K d)
  | 0 => fn_none fun _ _ _ _ => pre0
  | d + 1 => by
    have G_listed := ok_listed T d
    have G_is_integer : FnOk P w K mg base CX0 1 (a 0) (fd 0) ["value"] (spIsInteger K) := ok_is_integer T
    refine T.F_listed.ok sc_listed (fun vs H Q E h => spP_len (fun _ => rfl) h) (fun cdv A outer s H vs Q E hr h => ?_)
    obtain ⟨S, t, kn, hd, ⟨sm, dp⟩, q⟩ := h
    replace q : ∀ v H', Same H H' → Dp K (off S H') v (tD (flg false t)) → Q v H' := q
    obtain - | ⟨hd, ⟨⟩⟩ := hd
    rename_i v
    refine ⟨_, (pss_cons (ps_if (pt_val (pe_call G_is_integer (hr.mono (by omega)) (by rfl) T.m_is_integer T.F_is_integer.kp T.b_is_integer .nil pass0 (pa_cons (pv 0) pa_nil)))
        (pss_one (ps_ret (pv 0))) pss_nil)
      (pss_one (ps_ret (pe_tup (pa_cons pe_str (pa_cons (pe_ix (k_ix (K := K)) (pv 0) pe_int (fun _ _ => rfl)) (pa_cons (pe_lc (own := [("part", 1)]) (g := gName 1) (tt := tYes) rfl sc_listed.nd (k_pi (K := K) (pe_ix (k_ix (K := K)) (pv 0) pe_int (fun _ _ => rfl))) (blkOk_by (own := [("part", 1)]) (N := listed_N) (sc := defScope listed_s) (by decide +kernel)) (fun _ _ _ _ _ => (pg_name (i := 1) sc_listed.nd rfl (Or.inl rfl))) (fun _ _ _ _ _ => pts_nil) (fun _ _ _ _ _ => (pe_call G_listed (hr.mono (by omega)) (by rfl) T.m_listed T.F_listed.kp T.b_listed .nil pass0 (pa_cons (pv 1) pa_nil)))) pa_nil))))))), ?_⟩
    cases t with
    | leaf n =>
      rw [flg_leaf] at q
      have hd' := hd
      rw [tD_leaf] at hd
      refine s_seq (s_if (b_val (t_call1 (t_var rfl (spP_bl off_sub _ (.cons hd .nil) trivial rfl fun H1 s1 => ⟨_, rfl, ifT rfl ?_⟩)))))
      exact s_ret (t_var rfl (q _ H1 s1 (dp_same (off_same s1) _ _ hd')))
    | gate b k ps =>
      rw [flg_gate, tD_gate] at q
      rw [tD_gate] at hd
      refine s_seq (s_if (b_val (t_call1 (t_var rfl (spP_bl off_sub _ (.cons hd .nil) trivial rfl fun H1 s1 => ⟨_, rfl, ifF rfl (s_next ?_)⟩)))))
      have kn1 := kn.same s1
      have hd1 := dp_same (off_same s1) _ _ hd
      refine s_ret (t_tup (a_cons (t_c (a_cons (t_op (t_var rfl (t_c (ix_d (i := 1) off_sub hd1 rfl rfl fun u du => ?_))))))))
      cases du
      refine a_cons (lc_seq (b := b) (ds := ps.map tD) (nth ps fun p => tD (flg false p)) kn1 (fun Q q => t_op (t_var rfl (t_c (ix_d (i := 2) off_sub hd1 rfl rfl fun u du => q u _ (Same.refl _) du)))) (len_ok sm) (fun _ => rfl) (fun j x d H2 S' dj s2 kn2 dx hS hoff Q q => ?_) fun D H2 ys hD s2 hd2 h2 => ?_)
      · obtain ⟨p, pj, pm, rfl⟩ := at_ps dj
        refine t_call1 (t_var rfl ⟨S', p, kn2, .cons dx .nil, ⟨sm.parts p pm, dep_lt dp p pm⟩, fun v H' s' h => q v H' s' ?_⟩)
        rw [nth_eq pj]; exact h
      · rw [nth_map] at h2
        refine ⟨le3, fun p hp => q _ _ ((s1.trans s2).trans (same_new hp)) ?_⟩
        rw [List.map_map]
        exact dp_newT (kn1.same s2) hp (.cons (.str _) (.cons (.int _) (.cons h2 .nil)))
abbrev spContrary (K : PySem.W.Frag) (d : Nat) : Sp := spP K t1 (preT d) fun t => tD (con t)
theorem ok_contrary (T : Txt K mg a fd C tk) : ∀ d, FnOk P w K mg base CX0 (d + 1) (a 10) (fd 10) ["shape"] (spContrary K d)
  | 0 => fn_none fun _ _ _ _ => pre0
  | d + 1 => by
    have G_contrary := ok_contrary T d
    have G_is_integer : FnOk P w K mg base CX0 1 (a 0) (fd 0) ["value"] (spIsInteger K) := ok_is_integer T
    refine T.F_contrary.ok sc_contrary (fun vs H Q E h => spP_len (fun _ => rfl) h) (fun cdv A outer s H vs Q E hr h => ?_)
    obtain ⟨S, t, kn, hd, ⟨sm, dp⟩, q⟩ := h
    replace q : ∀ v H', Same H H' → Dp K (off S H') v (tD (con t)) → Q v H' := q
    obtain - | ⟨hd, ⟨⟩⟩ := hd
    rename_i v
    refine ⟨_, (pss_cons (ps_if (pt_val (pe_call G_is_integer (hr.mono (by omega)) (by rfl) T.m_is_integer T.F_is_integer.kp T.b_is_integer .nil pass0 (pa_cons (pv 0) pa_nil)))
        (pss_one (ps_ret (pv 0))) pss_nil)
      (pss_cons (ps_setLc (i := 1) (own := [("part", 2)]) (g := gName 2) (tt := tYes) rfl sc_contrary.nd rfl rfl (sw_true rfl rfl rfl (by decide +kernel)) (k_pi (K := K) (pe_ix (k_ix (K := K)) (pv 0) pe_int (fun _ _ => rfl))) (blkOk_by (own := [("part", 2)]) (N := contrary_N) (sc := defScope contrary_s) (by decide +kernel)) (fun _ _ _ _ _ => (pg_name (i := 2) sc_contrary.nd rfl (Or.inl rfl))) (fun _ _ _ _ _ => pts_nil) (fun _ _ _ _ _ => (pe_call G_contrary (hr.mono (by omega)) (by rfl) T.m_contrary T.F_contrary.kp T.b_contrary .nil pass0 (pa_cons (pv 2) pa_nil))))
      (pss_one (ps_ret (pe_tup (pa_cons pe_str (pa_cons (pe_op op_sub (pe_op op_add (pe_callB (k_len (K := K)) (by rfl) T.z_len (by decide +kernel) (pa_cons (pv 1) pa_nil)) pe_int) (pe_ix (k_ix (K := K)) (pv 0) pe_int (fun _ _ => rfl))) (pa_cons (pv 1) pa_nil)))))))), ?_⟩
    cases t with
    | leaf n =>
      rw [con_leaf] at q
      have hd' := hd
      rw [tD_leaf] at hd
      refine s_seq (s_if (b_val (t_call1 (t_var rfl (spP_bl off_sub _ (.cons hd .nil) trivial rfl fun H1 s1 => ⟨_, rfl, ifT rfl ?_⟩)))))
      exact s_ret (t_var rfl (q _ H1 s1 (dp_same (off_same s1) _ _ hd')))
    | gate b k ps =>
      obtain ⟨k1, k2, _⟩ := (wf_gate b k ps).mp sm.1
      rw [con_gate, tD_gate] at q
      rw [tD_gate] at hd
      refine s_seq (s_if (b_val (t_call1 (t_var rfl (spP_bl off_sub _ (.cons hd .nil) trivial rfl fun H1 s1 => ⟨_, rfl, ifF rfl (s_next ?_)⟩)))))
      have kn1 := kn.same s1
      have hd1 := dp_same (off_same s1) _ _ hd
      refine s_seq (s_set (lc_seq (b := b) (ds := ps.map tD) (nth ps fun p => tD (con p)) kn1 (fun Q q => t_op (t_var rfl (t_c (ix_d (i := 2) off_sub hd1 rfl rfl fun u du => q u _ (Same.refl _) du)))) (len_ok sm) (fun _ => rfl) (fun j x d H2 S' dj s2 kn2 dx hS hoff Q q => ?_) fun D H2 ys hD s2 hd2 h2 => ?_))
      · obtain ⟨p, pj, pm, rfl⟩ := at_ps dj
        refine t_call1 (t_var rfl ⟨S', p, kn2, .cons dx .nil, ⟨sm.parts p pm, dep_lt dp p pm⟩, fun v H' s' h => q v H' s' ?_⟩)
        rw [nth_eq pj]; exact h
      · rw [nth_map] at h2
        refine s_ret (t_tup (a_cons (t_c (a_cons (t_op (t_op (t_cb1 (t_var rfl (len_d off_sub h2 rfl ?_)))))))))
        refine t_c ⟨_, _, rfl, rfl, t_op (t_var rfl (t_c (ix_d (i := 1) (off_sub.trans s2) hd1 rfl rfl fun u du => ?_)))⟩
        cases du
        refine ⟨_, _, rfl, rfl, ?_⟩
        refine a_cons (t_var rfl ⟨le3, fun p hp => q _ _ ((s1.trans s2).trans (same_new hp)) ?_⟩)
        rw [List.map_map]
        refine dp_newT (kn1.same s2) hp (.cons (.str _) (.cons (dp_int ?_) (.cons h2 .nil)))
        rw [List.length_map]; omega
end
end K31

set_option maxRecDepth 100000
set_option maxHeartbeats 4000000
namespace K31
open PySem PySem.Spec PyProof.Rows L2 Kh
section
variable {P : Program} {w : World} {K : PySem.W.Frag} {mg : Str → Option Value} {base : Heap} {a : Nat → Addr} {fd : Nat → FuncData} {C : Addr} {tk : Nat → Tok}
/-- whole numbers told -/
def nD (n : Nat) : PyData := .int (n : Nat)
def nL (ns : List Nat) : PyData := .list (ns.map nD)
/-- the j-th part's houses -/
def nthL (ps : List Kh.T) (j : Nat) : List PyData := match ps[j]? with | some p => (lv p).map nD | none => []
theorem nthL_eq {ps : List Kh.T} {j : Nat} {p : Kh.T} (h : ps[j]? = some p) : nthL ps j = (lv p).map nD := by unfold nthL; rw [h]
theorem nthL_take (ps : List Kh.T) : ∀ n, n ≤ ps.length → (List.range n).flatMap (nthL ps) = ((ps.take n).flatMap lv).map nD
  | 0, _ => by simp
  | n + 1, h => by
    have e : ps[n]? = some ps[n] := List.getElem?_eq_getElem (by omega)
    rw [flat_take, nthL_take ps n (by omega), List.take_add_one, e, nthL_eq e, List.flatMap_append, List.map_append]
    simp
theorem flat_take_le (ps : List Kh.T) (n : Nat) : ((ps.take n).flatMap lv).length ≤ (ps.flatMap lv).length := by
  have e : ps.flatMap lv = (ps.take n).flatMap lv ++ (ps.drop n).flatMap lv := by rw [← List.flatMap_append, List.take_append_drop]
  rw [e, List.length_append]; omega
abbrev spLeaves (K : PySem.W.Frag) (d : Nat) : Sp := spP K t1 (preT d) fun t => nL (lv t)
theorem ok_leaves (T : Txt K mg a fd C tk) : ∀ d, FnOk P w K mg base CX0 (d + 1) (a 8) (fd 8) ["shape"] (spLeaves K d)
  | 0 => fn_none fun _ _ _ _ => pre0
  | d + 1 => by
    have G_leaves := ok_leaves T d
    have G_is_integer : FnOk P w K mg base CX0 1 (a 0) (fd 0) ["value"] (spIsInteger K) := ok_is_integer T
    refine T.F_leaves.ok sc_leaves (fun vs H Q E h => spP_len (fun _ => rfl) h) (fun cdv A outer s H vs Q E hr h => ?_)
    obtain ⟨S, t, kn, hd, ⟨sm, dp⟩, q⟩ := h
    replace q : ∀ v H', Same H H' → Dp K (off S H') v (.list ((lv t).map nD)) → Q v H' := q
    obtain - | ⟨hd, ⟨⟩⟩ := hd
    rename_i v
    refine ⟨_, (pss_cons (ps_if (pt_val (pe_call G_is_integer (hr.mono (by omega)) (by rfl) T.m_is_integer T.F_is_integer.kp T.b_is_integer .nil pass0 (pa_cons (pv 0) pa_nil)))
        (pss_one (ps_ret (pe_lst (pa_cons (pv 0) pa_nil)))) pss_nil)
      (pss_one (ps_ret (pe_lc2 (own := [("part", 1), ("house", 2)]) (vs1 := [2]) (g := gName 1) (g1 := gName 2) (tt := tYes) (tt1 := tYes) rfl sc_leaves.nd (k_pi (K := K) (pe_ix (k_ix (K := K)) (pv 0) pe_int (fun _ _ => rfl))) (blkOk_by (own := [("part", 1), ("house", 2)]) (N := leaves_N) (sc := defScope leaves_s) (by decide +kernel)) (by decide) (fun _ _ _ _ _ => (pg_name (i := 1) sc_leaves.nd rfl (Or.inl rfl))) (fun _ _ _ _ _ => pts_nil) (fun _ _ _ _ _ => (k_pi (K := K) (pe_call G_leaves (hr.mono (by omega)) (by rfl) T.m_leaves T.F_leaves.kp T.b_leaves .nil pass0 (pa_cons (pv 1) pa_nil)))) (fun _ _ _ _ _ => (pg_name (i := 2) sc_leaves.nd rfl (Or.inl rfl))) (fun _ _ _ _ _ => pts_nil) (fun _ _ _ _ _ => (pv 2)))))), ?_⟩
    cases t with
    | leaf n =>
      rw [lv_leaf] at q
      have hd' := hd
      rw [tD_leaf] at hd
      refine s_seq (s_if (b_val (t_call1 (t_var rfl (spP_bl off_sub _ (.cons hd .nil) trivial rfl fun H1 s1 => ⟨_, rfl, ifT rfl ?_⟩)))))
      exact s_ret (t_lst (a_cons (t_var rfl ⟨le1, fun p hp => q _ _ (s1.trans (same_new hp)) (dp_newL (kn.same s1) hp (.cons (dp_same (off_same s1) _ _ hd) .nil))⟩)))
    | gate b k ps =>
      rw [lv_gate] at q
      rw [tD_gate] at hd
      refine s_seq (s_if (b_val (t_call1 (t_var rfl (spP_bl off_sub _ (.cons hd .nil) trivial rfl fun H1 s1 => ⟨_, rfl, ifF rfl (s_next ?_)⟩)))))
      have kn1 := kn.same s1
      have hd1 := dp_same (off_same s1) _ _ hd
      refine s_ret (lc2_seq (b := b) (ds := ps.map tD) (nthL ps) kn1 (fun Q q => t_op (t_var rfl (t_c (ix_d (i := 2) off_sub hd1 rfl rfl fun u du => q u _ (Same.refl _) du)))) (fun n hn => ?_) (fun _ => rfl) (fun _ _ => rfl) (fun _ _ => rfl) (fun j x d H2 S' dj s2 kn2 dx hS Q q => ?_) fun D H2 ys hD s2 hd2 h2 => ?_)
      · rw [List.length_map] at hn
        rw [nthL_take ps n hn, List.length_map]
        have h1 := flat_take_le ps n
        have h2 := sm.2
        rw [lv_gate] at h2
        omega
      · obtain ⟨p, pj, pm, rfl⟩ := at_ps dj
        refine t_call1 (t_var rfl ⟨S', p, kn2, .cons dx .nil, ⟨sm.parts p pm, dep_lt dp p pm⟩, fun v H' s' h => q v H' s' ?_⟩)
        rw [nthL_eq pj]; exact h
      · rw [List.length_map, nthL_take ps _ (Nat.le_refl _), List.take_length] at h2
        exact q _ _ (s1.trans s2) h2
theorem deps_max : ∀ {ps : List Kh.T} {m : Int}, m ∈ ps.map (fun p => ((dep p : Nat) : Int)) → (∀ y, y ∈ ps.map (fun p => ((dep p : Nat) : Int)) → y ≤ m) → m = ((deps ps : Nat) : Int) := by
  intro ps m h1 h2
  obtain ⟨p, hp, rfl⟩ := List.mem_map.mp h1
  have a1 : deps ps ≤ dep p := (deps_le ps).mpr fun q hq => by
    have := h2 _ (List.mem_map.mpr ⟨q, hq, rfl⟩)
    omega
  have a2 : dep p ≤ deps ps := (deps_le ps).mp (Nat.le_refl _) p hp
  omega
abbrev spDepth (K : PySem.W.Frag) (d : Nat) : Sp := spP K t1 (preT d) fun t => nD (dep t)
theorem ok_depth (T : Txt K mg a fd C tk) : ∀ d, FnOk P w K mg base CX0 (d + 1) (a 9) (fd 9) ["shape"] (spDepth K d)
  | 0 => fn_none fun _ _ _ _ => pre0
  | d + 1 => by
    have G_depth := ok_depth T d
    have G_is_integer : FnOk P w K mg base CX0 1 (a 0) (fd 0) ["value"] (spIsInteger K) := ok_is_integer T
    refine T.F_depth.ok sc_depth (fun vs H Q E h => spP_len (fun _ => rfl) h) (fun cdv A outer s H vs Q E hr h => ?_)
    obtain ⟨S, t, kn, hd, ⟨sm, dp⟩, q⟩ := h
    replace q : ∀ v H', Same H H' → Dp K (off S H') v (.int ((dep t : Nat) : Int)) → Q v H' := q
    obtain - | ⟨hd, ⟨⟩⟩ := hd
    rename_i v
    refine ⟨_, (pss_cons (ps_if (pt_val (pe_call G_is_integer (hr.mono (by omega)) (by rfl) T.m_is_integer T.F_is_integer.kp T.b_is_integer .nil pass0 (pa_cons (pv 0) pa_nil)))
        (pss_one (ps_ret pe_int)) pss_nil)
      (pss_one (ps_ret (pe_op op_add pe_int (pe_callB (k_max (K := K) rfl) (by rfl) T.z_max (by decide +kernel) (pa_cons (pe_lc (own := [("part", 1)]) (g := gName 1) (tt := tYes) rfl sc_depth.nd (k_pi (K := K) (pe_ix (k_ix (K := K)) (pv 0) pe_int (fun _ _ => rfl))) (blkOk_by (own := [("part", 1)]) (N := depth_N) (sc := defScope depth_s) (by decide +kernel)) (fun _ _ _ _ _ => (pg_name (i := 1) sc_depth.nd rfl (Or.inl rfl))) (fun _ _ _ _ _ => pts_nil) (fun _ _ _ _ _ => (pe_call G_depth (hr.mono (by omega)) (by rfl) T.m_depth T.F_depth.kp T.b_depth .nil pass0 (pa_cons (pv 1) pa_nil)))) pa_nil)))))), ?_⟩
    cases t with
    | leaf n =>
      rw [tD_leaf] at hd
      refine s_seq (s_if (b_val (t_call1 (t_var rfl (spP_bl off_sub _ (.cons hd .nil) trivial rfl fun H1 s1 => ⟨_, rfl, ifT rfl ?_⟩)))))
      exact s_ret (t_c (q _ _ s1 (dp_int (by rw [dep]; rfl))))
    | gate b k ps =>
      obtain ⟨k1, k2, _⟩ := (wf_gate b k ps).mp sm.1
      rw [dep] at q
      rw [tD_gate] at hd
      refine s_seq (s_if (b_val (t_call1 (t_var rfl (spP_bl off_sub _ (.cons hd .nil) trivial rfl fun H1 s1 => ⟨_, rfl, ifF rfl (s_next ?_)⟩)))))
      have kn1 := kn.same s1
      have hd1 := dp_same (off_same s1) _ _ hd
      refine s_ret (t_op (t_c (t_cb1 (lc_seq (b := b) (ds := ps.map tD) (nth ps fun p => nD (dep p)) kn1 (fun Q q => t_op (t_var rfl (t_c (ix_d (i := 2) off_sub hd1 rfl rfl fun u du => q u _ (Same.refl _) du)))) (len_ok sm) (fun _ => rfl) (fun j x d H2 S' dj s2 kn2 dx hS hoff Q q => ?_) fun D H2 ys hD s2 hd2 h2 => ?_))))
      · obtain ⟨p, pj, pm, rfl⟩ := at_ps dj
        refine t_call1 (t_var rfl ⟨S', p, kn2, .cons dx .nil, ⟨sm.parts p pm, dep_lt dp p pm⟩, fun v H' s' h => q v H' s' ?_⟩)
        rw [nth_eq pj]; exact h
      · rw [nth_map] at h2
        refine max_d (ns := ps.map fun p => ((dep p : Nat) : Int)) off_sub (by rw [List.map_map]; exact h2) (by rw [List.length_map]; omega) fun m m1 m2 => ⟨_, _, rfl, rfl, q _ _ (s1.trans s2) (dp_int ?_)⟩
        rw [deps_max m1 m2]; omega
/-- a tree, houses told as a list or a tuple -/
def tS (x : Kh.T × Bool × List Nat) : List PyData := [tD x.1, sq x.2.1 (x.2.2.map nD)]
theorem mem_ints {n : Nat} {s : List Nat} : ((n : Nat) : Int) ∈ s.map (fun m : Nat => ((m : Nat) : Int)) ↔ n ∈ s := by
  constructor
  · intro h
    obtain ⟨m, hm, e⟩ := List.mem_map.mp h
    have : m = n := by omega
    exact this ▸ hm
  · intro h; exact List.mem_map.mpr ⟨n, h, rfl⟩
abbrev spStandsIn (K : PySem.W.Frag) (d : Nat) : Sp := spP K tS (fun x => preT d x.1) fun x => .bool (st x.2.2 x.1)
theorem ok_stands_in (T : Txt K mg a fd C tk) : ∀ d, FnOk P w K mg base CX0 (d + 1) (a 11) (fd 11) ["shape", "houses"] (spStandsIn K d)
  | 0 => fn_none fun _ _ _ _ h => by
    obtain ⟨_, x, _, _, ⟨_, h⟩, _⟩ := h
    exact Nat.not_lt_zero _ h
  | d + 1 => by
    have G_stands_in := ok_stands_in T d
    have G_is_integer : FnOk P w K mg base CX0 1 (a 0) (fd 0) ["value"] (spIsInteger K) := ok_is_integer T
    refine T.F_stands_in.ok sc_stands_in (fun vs H Q E h => spP_len (fun _ => rfl) h) (fun cdv A outer s H vs Q E hr h => ?_)
    obtain ⟨S, ⟨t, c, ss⟩, kn, hd, ⟨sm, dp⟩, q⟩ := h
    replace q : ∀ v H', Same H H' → Dp K (off S H') v (.bool (st ss t)) → Q v H' := q
    replace sm : Sm t := sm
    replace dp : dep t < d + 1 := dp
    obtain - | ⟨hd, - | ⟨hs, ⟨⟩⟩⟩ := hd
    rename_i v vh
    replace hd : Dp K (off S H) v (tD t) := hd
    replace hs : Dp K (off S H) vh (sq c (ss.map nD)) := hs
    refine ⟨_, (pss_cons (ps_if (pt_val (pe_call G_is_integer (hr.mono (by omega)) (by rfl) T.m_is_integer T.F_is_integer.kp T.b_is_integer .nil pass0 (pa_cons (pv 0) pa_nil)))
        (pss_one (ps_ret (pe_cmpR (k_in (K := K)) (pv 0) (pv 1) (by rfl)))) pss_nil)
      (pss_one (ps_ret (pe_cmpR op_ge (pe_callB (k_len (K := K)) (by rfl) T.z_len (by decide +kernel) (pa_cons (pe_lc (own := [("part", 2)]) (g := gName 2) (tt := _) rfl sc_stands_in.nd (k_pi (K := K) (pe_ix (k_ix (K := K)) (pv 0) pe_int (fun _ _ => rfl))) (blkOk_by (own := [("part", 2)]) (N := stands_in_N) (sc := defScope stands_in_s) (by decide +kernel)) (fun _ _ _ _ _ => (pg_name (i := 2) sc_stands_in.nd rfl (Or.inl rfl))) (fun _ _ _ _ _ => (pts_one (pt_val (pe_call G_stands_in (hr.mono (by omega)) (by rfl) T.m_stands_in T.F_stands_in.kp T.b_stands_in .nil pass0 (pa_cons (pv 2) (pa_cons (pv 1) pa_nil)))))) (fun _ _ _ _ _ => (pv 2))) pa_nil)) (pe_ix (k_ix (K := K)) (pv 0) pe_int (fun _ _ => rfl)) (nomark _))))), ?_⟩
    cases t with
    | leaf n =>
      rw [tD_leaf] at hd
      rw [st_leaf] at q
      refine s_seq (s_if (b_val (t_call1 (t_var rfl (spP_bl off_sub _ (.cons hd .nil) trivial rfl fun H1 s1 => ⟨_, rfl, ifT rfl ?_⟩)))))
      cases hd
      refine s_ret (t_op (t_var rfl (t_var rfl (in_d (ns := ss.map fun m : Nat => ((m : Nat) : Int)) (off_sub.trans s1) hs (by rw [items_sq, List.map_map]; rfl) (q _ _ s1 (dp_bl ?_))))))
      exact decide_eq_decide.mpr mem_ints
    | gate b k ps =>
      rw [tD_gate] at hd
      rw [st_gate] at q
      refine s_seq (s_if (b_val (t_call1 (t_var rfl (spP_bl off_sub _ (.cons hd .nil) trivial rfl fun H1 s1 => ⟨_, rfl, ifF rfl (s_next ?_)⟩)))))
      have kn1 := kn.same s1
      have hd1 := dp_same (off_same s1) _ _ hd
      have hs1 := dp_same (off_same s1) _ _ hs
      refine s_ret (t_op (t_cb1 (lc_seqF (b := b) (ds := ps.map tD) (fun j => (ps[j]?).any (st ss)) (nth ps tD) kn1 (fun Q q => t_op (t_var rfl (t_c (ix_d (i := 2) off_sub hd1 rfl rfl fun u du => q u _ (Same.refl _) du)))) (len_ok sm) (fun _ => rfl) (fun j x d H2 S' dj s2 kn2 dx hS hoff Q q => ?_) (fun j x d H2 S' dj pj s2 kn2 dx hS hoff Q q => ?_) fun D H2 ys hD s2 hd2 h2 => ?_)))
      · obtain ⟨p, pj, pm, rfl⟩ := at_ps dj
        refine b_val (t_call2 (t_var rfl (t_var rfl ⟨S', (p, c, ss), kn2, .cons dx (.cons (dp_same hoff _ _ hs1) .nil), ⟨sm.parts p pm, dep_lt dp p pm⟩, fun v H' s' h => ?_⟩)))
        replace h : Dp K (off S' H') v (.bool (st ss p)) := h
        cases h
        refine ⟨_, rfl, ?_⟩
        have e : (ps[j]?).any (st ss) = st ss p := by rw [pj]; rfl
        rw [← e]; exact q H' s'
      · obtain ⟨p, pj', pm, rfl⟩ := at_ps dj
        refine t_var rfl (q _ _ (Same.refl _) ?_)
        rw [nth_eq pj']; exact dx
      · rw [List.length_map, range_filter (p := st ss) (g := tD) fun i x e => ⟨by rw [e]; rfl, nth_eq e⟩] at h2
        refine len_d off_sub h2 rfl (t_op (t_var rfl (t_c (ix_d (i := 1) (off_sub.trans s2) hd1 rfl rfl fun u du => ?_))))
        cases du
        refine ⟨_, _, rfl, rfl, q _ _ (s1.trans s2) (dp_bl ?_)⟩
        rw [List.length_map]
        exact decide_eq_decide.mpr (by omega)
end
end K31

set_option maxRecDepth 100000
set_option maxHeartbeats 1000000
/-! name = {k: v for ..} -/
namespace Kh
open PySem PySem.Spec PyProof.Rows L2
theorem t_dc {wi : TI} {g : TG} {tt : TT} {tk tv : TE} {vs : List Nat} {σ : L2.St} {H : Hp} {Q : VK} (h : wi σ H fun J H1 => ∀ D, H1 D = none → ∃ W : Nat → Nat → Hp → Prop, (∃ m, W 0 m (upd H1 D (.dK []))) ∧ ∀ i m H, W i m H →
    (J.stop i H ∧ Q (.ref D) H) ∨ (J.go i H ∧ ∃ Nx : Hp → Prop, (∀ H', Nx H' → ∃ m', m' < m ∧ W (i + 1) m' H') ∧ ∀ x H', J.yld i H x H' → g x (wipe σ vs) H' fun σ2 H2 => wipe σ2 vs = wipe σ vs ∧ tt σ2 H2 fun b H3 =>
      if b = true then tk σ2 H3 fun y H4 => tv σ2 H4 fun z H5 => ∃ kvs k, y = kV k ∧ H5 D = some (.dK kvs) ∧ kvs.length < sizeLine ∧ Nx (upd H5 D (.dK (putK kvs k z))) else Nx H3)) : tDc wi g tt tk tv vs σ H Q := h
section
variable {X : Cx}
theorem sw_dict {kx vx : Expr} {gs : List Comprehension} {sc : Scope} {p q : Pos} {y : Str} {l : Nat} {env : Env} (h1 : env.scope.kind = .function) (h2 : env.scope.names.lookup y = some .local) (h3 : (q.line == p.line) = true)
    (h4 : (sc.names.any fun (n, k) => n == y && (k == .local || k == .cell)) = false) : swapsWith (.DictComp kx vx gs sc p) (some (.Name y q)) l env = pure true := by
  have k1 : env.kindOf y = some .local := h2
  have k2 : env.blockKind = .function := by (unfold Env.blockKind; rw [h1]; rfl)
  unfold swapsWith; simp only [k2, k1, h4, Expr.pos, h3]; rfl
theorem ps_setDc {i : Nat} {y : Str} {py : Pos} {kx vx tg it : Expr} {ifs : List Expr} {sc : Scope} {own : List (Str × Nat)} {pos spos : Pos} {wi : TI} {g : TG} {tt : TT} {tk tv : TE} (hc : X.calm = true) (hN : X.N.Nodup) (hy : X.N[i]? = some y) (hyl : X.env.scope.names.lookup y = some .local)
    (hsw : swapsWith (.DictComp kx vx [⟨tg, it, ifs, 0⟩] sc pos) (some (.Name y py)) spos.line X.env = pure true) (hi : PI X tg it wi) (ok : BlkOk X.N X.env.scope sc own)
    (hg : ∀ (s : Shared) (H : Hp) (C : Addr) (cl : List (Str × Addr)) (fp : List Addr), PG (X.blk s H sc (compEnvC sc cl C X.env) fp) tg g)
    (ht : ∀ (s : Shared) (H : Hp) (C : Addr) (cl : List (Str × Addr)) (fp : List Addr), PTs (X.blk s H sc (compEnvC sc cl C X.env) fp) ifs tt)
    (hk : ∀ (s : Shared) (H : Hp) (C : Addr) (cl : List (Str × Addr)) (fp : List Addr), PE (X.blk s H sc (compEnvC sc cl C X.env) fp) kx tk)
    (he : ∀ (s : Shared) (H : Hp) (C : Addr) (cl : List (Str × Addr)) (fp : List Addr), PE (X.blk s H sc (compEnvC sc cl C X.env) fp) vx tv) (hs : ∀ x, foldedSetIterable it X.env x = pure x := by intro _; rfl) :
    PS X (.Assign [.Name y py] (.DictComp kx vx [⟨tg, it, ifs, 0⟩] sc pos) spos) (tAsg (tDc wi g tt tk tv (own.map (·.2))) (gName i)) := by
  constructor
  intro pins s ρ H D I h
  rw [exec_Assign_Name_used _ _ _ _ hsw]
  have h' : tDc wi g tt tk tv (own.map (·.2)) ρ H (fun x H1 => gName i x ρ H1 D.nx) := h
  have step := dc_core (pos := pos) (pos' := firstIterPos [⟨tg, it, ifs, 0⟩] pos) (use := some (assign (.Name y py) X.env)) (Qf := fun _ s' => SP X pins D .next s') hc hN I hi ok hg ht hk he hs h' (fun L c s' m H' I' q hn f => by
    show wpAny _ _ (assign (.Name y py) X.env (.ref L)) _ _ _
    refine wpAny_assign_Name (store_ok2 (v := V.ref L) I' hN hy (.inl hyl) rfl ?_ (.inr hyl))
    rintro s2 I2 ⟨b, sb, hb⟩
    obtain ⟨f0, f1, f2, f3, f4, f5⟩ := f
    have nb : c ≠ b := hb.elim (fun z => z ▸ f1) fun z e => f4 y b z e.symm
    exact ⟨m, hn.sameBut sb nb, fun h3 sb3 => ⟨_, H', I2.turned (t' := s2.toks) (fun d o hd e => (sb3.2 d hd).trans e) f0 f1 f3 f4 f5, q⟩⟩)
  exact wpAny_bind (wpAny_standAt (wpAny_bind (wpAny_bind (thn step fun _ s' hq => wpAny_pure (wpAny_pure hq)))))
end
end Kh

set_option maxRecDepth 100000
set_option maxHeartbeats 4000000
namespace K31
open PySem PySem.Spec PyProof.Rows L2 Kh
section
variable {P : Program} {w : World} {K : PySem.W.Frag} {mg : Str → Option Value} {base : Heap} {a : Nat → Addr} {fd : Nat → FuncData} {C : Addr} {tk : Nat → Tok}
theorem dpa_snoc {K : PySem.W.Frag} {H : Hp} {d : PyData} : ∀ {ds : List PyData} {vs : List V}, DpAll K H vs (ds ++ [d]) → ∃ vs' v, vs = vs' ++ [v] ∧ DpAll K H vs' ds ∧ Dp K H v d
  | [], _, .cons h .nil => ⟨[], _, rfl, .nil, h⟩
  | e :: ds, _, .cons h t => by
    obtain ⟨vs', v, rfl, h1, h2⟩ := dpa_snoc t
    exact ⟨_ :: vs', v, rfl, .cons h h1, h2⟩
theorem siz_pos (t : Kh.T) : 1 ≤ siz t := by cases t <;> simp [siz]
theorem len_sizs : ∀ ts : List Kh.T, ts.length ≤ sizs ts
  | [] => Nat.zero_le _
  | t :: ts => by rw [sizs, List.length_cons]; have := siz_pos t; have := len_sizs ts; omega
theorem sizs_app : ∀ xs ys : List Kh.T, sizs (xs ++ ys) = sizs xs + sizs ys
  | [], ys => by simp [sizs]
  | x :: xs, ys => by rw [List.cons_append, sizs, sizs, sizs_app xs ys]; omega
abbrev spIsTree (K : PySem.W.Frag) : Sp := spP K t1 (fun t => Wf t ∧ siz t ≤ 100000) fun _ => .bool true
theorem ok_is_tree (T : Txt K mg a fd C tk) : FnOk P w K mg base CX0 5 (a 5) (fd 5) ["value"] (spIsTree K) := by
  have G_is_gate : FnOk P w K mg base CX0 4 (a 4) (fd 4) ["value"] (spIsGate K) := ok_is_gate T
  have G_is_number_below : FnOk P w K mg base CX0 3 (a 3) (fd 3) ["value", "many"] (spBelow K) := ok_is_number_below T
  refine T.F_is_tree.ok sc_is_tree (fun vs H Q E h => spP_len (fun _ => rfl) h) (fun cdv A outer s H vs Q E hr h => ?_)
  obtain ⟨S, t, kn, hd, ⟨wf, sz⟩, q⟩ := h
  obtain - | ⟨hd, ⟨⟩⟩ := hd
  rename_i v
  refine ⟨_, (pss_cons (ps_set (i := 1) sc_is_tree.nd rfl (Or.inl rfl) (pe_lst (pa_cons (pv 0) pa_nil)))
      (pss_cons (ps_while PassesOwn.never (pt_cmpR op_gt (pe_callB (k_len (K := K)) (by rfl) T.z_len (by decide +kernel) (pa_cons (pv 1) pa_nil)) pe_int (nomark _))
        (pss_cons (ps_set (i := 2) sc_is_tree.nd rfl (Or.inl rfl) (pe_bm0 PySem.F.plainAttrs_list PySem.F.slot_list_pop PySem.F.type_list_pop mt_pop (pv 1)))
        (pss_one (ps_if (pt_val (pe_call G_is_gate (hr.mono (by omega)) (by rfl) T.m_is_gate T.F_is_gate.kp T.b_is_gate .nil pass0 (pa_cons (pv 2) pa_nil)))
          (pss_one (ps_expr (pe_bm PySem.F.plainAttrs_list PySem.F.slot_list_extend PySem.F.type_list_extend (k_ext (K := K)) (pv 1) (pa_cons (pe_ix (k_ix (K := K)) (pv 2) pe_int (fun _ _ => rfl)) pa_nil)))) (pss_one (ps_if (pt_not (pt_val (pe_call G_is_number_below (hr.mono (by omega)) (by rfl) T.m_is_number_below T.F_is_number_below.kp T.b_is_number_below .nil pass0 (pa_cons (pv 2) (pa_cons (pe_glob (v := .int 24) (by rfl) T.m_HOUSES ⟨_, rfl⟩) pa_nil)))))
            (pss_one (ps_ret pe_bl)) pss_nil))))))
      (pss_one (ps_ret pe_bl)))), ?_⟩
  refine s_seq (s_set (t_lst (a_cons (t_var rfl ⟨le1, fun D hD => ?_⟩))))
  refine s_seq ?_
  refine ⟨fun m σ H' => ∃ vs ts x2, σ = [some v, some (.ref D), x2] ∧ H' D = some (.lst vs) ∧ DpAll K (off (plus S D) H') vs (ts.map tD) ∧ (∀ t ∈ ts, Wf t) ∧ m = sizs ts ∧ sizs ts ≤ 100000 ∧ Same H H',
    ⟨_, [v], [t], none, rfl, upd_same, .cons (dp_same (off_plus hD (same_new hD)) _ _ hd) .nil, fun p hp => by rw [List.mem_singleton.mp hp]; exact wf, rfl, by simp [sizs]; exact sz, same_new hD⟩, ?_⟩
  rintro m σ H' ⟨vs, ts, x2, rfl, hv, da, wfs, rfl, sz', sm⟩
  refine b_test (t_op (t_cb1 (t_var rfl ⟨D, vs, rfl, .inl (sqL hv), t_c ⟨_, _, rfl, rfl, _, rfl, ?_⟩⟩)))
  have ln : vs.length = ts.length := by rw [dpa_len da, List.length_map]
  rcases List.eq_nil_or_concat ts with rfl | ⟨ts', t', rfl⟩
  · have e : vs = [] := List.eq_nil_of_length_eq_zero ln
    subst e
    refine ifF (by decide) (nx_of ?_)
    exact s_ret (t_c (q _ _ sm (.bl true)))
  · rw [List.concat_eq_append] at da wfs sz' ln ⊢
    rw [List.map_append] at da
    obtain ⟨vs', u, rfl, d1, d2⟩ := dpa_snoc da
    have wf' : Wf t' := wfs t' (by simp)
    have ep : sizs (ts' ++ [t']) = sizs ts' + siz t' := by rw [sizs_app]; simp [sizs]
    refine ifT (decide_eq_true (by rw [List.length_append, List.length_singleton]; omega)) ⟨fun σ' H'' => ∃ vs ts x2, σ' = [some v, some (.ref D), x2] ∧ H'' D = some (.lst vs) ∧ DpAll K (off (plus S D) H'') vs (ts.map tD) ∧ (∀ t ∈ ts, Wf t) ∧ sizs ts < sizs (ts' ++ [t']) ∧ Same H H'', ?_, ?_⟩
    · rintro σ' H'' ⟨vs, ts, x2, h1, h2, h3, h4, h5, h6⟩
      exact ⟨_, h5, vs, ts, x2, h1, h2, h3, h4, rfl, by omega, h6⟩
    refine s_seq (s_set (t_bm0 (t_var rfl ⟨.inl ⟨rfl, _, sqL hv⟩, D, _, u, rfl, rfl, hv, by simp, ?_⟩)))
    have e1 : (vs' ++ [u]).dropLast = vs' := by simp
    rw [e1]
    have sm1 : Same H (upd H' D (.lst vs')) := smut sm hD
    have eo : off (plus S D) (upd H' D (.lst vs')) = off (plus S D) H' := off_mut (.inr rfl)
    rw [← eo] at d1 d2
    generalize hH : upd H' D (.lst vs') = H1 at *
    have hv1 : H1 D = some (.lst vs') := by rw [← hH]; exact upd_same
    refine s_if (b_val (t_call1 (t_var rfl (spP_bl off_sub t' (.cons d2 .nil) wf' rfl fun H2 s2 => ⟨_, rfl, ?_⟩))))
    have hv2 := s2 _ _ hv1
    have d2' := dp_same (off_same s2) _ _ d2
    have d1' := dpa_same (off_same s2) _ _ d1
    cases t' with
    | leaf n =>
      rw [tD_leaf] at d2'
      have hn : n < 24 := by rw [Wf] at wf'; exact wf'
      refine ifF rfl (s_if (b_not (b_val (t_call2 (t_var rfl (t_c (spP_bl off_sub (PyData.int (n : Nat), (24 : Int)) (.cons d2' (.cons (.int 24) .nil)) trivial rfl fun H3 s3 => ⟨_, rfl, ?_⟩)))))))
      have eb : belowD 24 (.int ((n : Nat) : Int)) = true := by simp [belowD]; omega
      refine ifF (by rw [eb]; rfl) (s_next ⟨vs', ts', _, rfl, s3 _ _ hv2, dpa_same (off_same s3) _ _ d1', fun p hp => wfs p (by simp [hp]), by rw [ep]; have := siz_pos (.leaf n); omega, (sm1.trans s2).trans s3⟩)
    | gate b k ps =>
      rw [tD_gate] at d2'
      refine ifT rfl (s_drop (t_bm (t_var rfl ⟨.inl ⟨rfl, _, sqL hv2⟩, a_cons (t_op (t_var rfl (t_c (ix_d (i := 2) off_sub d2' rfl rfl fun z dz => ?_))))⟩)))
      obtain ⟨zb, zs, rfl, hz, da⟩ := items_at dz (items_sq b _)
      have lz := dpa_len da
      rw [List.length_map] at lz
      have lv' : vs'.length = ts'.length := by rw [dpa_len d1', List.length_map]
      have h1 := len_sizs ts'
      have h2 := len_sizs ps
      have h3 : siz (.gate b k ps) = 1 + sizs ps := by rw [siz]
      refine ⟨D, zb, vs', zs, rfl, rfl, hv2, hz.imp (fun y => off_sub.seq y) (fun y => same_t off_sub y), Nat.le_trans (show vs'.length + zs.length ≤ 100000 by omega) (by decide), vs' ++ zs, ts' ++ ps, _, rfl, upd_same, ?_, ?_, ?_, ?_⟩
      · rw [off_mut (show plus S D D from .inr rfl), List.map_append]
        exact dpa_app d1' da
      · intro p hp
        rcases List.mem_append.mp hp with hp | hp
        · exact wfs p (by simp [hp])
        · exact ((wf_gate b k ps).mp wf').2.2 p hp
      · rw [sizs_app, ep]; omega
      · exact smut (sm1.trans s2) hD
/-- houses, and a list or a tuple of different ones of them -/
def hS (x : List Nat × Bool × List Nat) : List PyData := [.tuple (x.1.map nD), sq x.2.1 (x.2.2.map nD)]
def preH (x : List Nat × Bool × List Nat) : Prop := (∀ n ∈ x.2.2, n < 24 ∧ n ∈ x.1) ∧ x.2.2.Nodup ∧ x.2.2.length ≤ 1000
abbrev spAreHouses (K : PySem.W.Frag) : Sp := spP K hS preH fun _ => .bool true
theorem nD_map (ns : List Nat) : ns.map nD = (ns.map fun m : Nat => ((m : Nat) : Int)).map PyData.int := by rw [List.map_map]; rfl
theorem isListD_sq (b : Bool) (ds : List PyData) : isListD (sq b ds) = true := by cases b <;> rfl
/-- all are so -/
theorem all_map {n : Nat} {f : Nat → Bool} (h : ∀ i, i < n → f i = true) : ((List.range n).map f).all id = true := by
  rw [List.all_map, List.all_eq_true]
  intro x hx
  exact h x (List.mem_range.mp hx)
theorem ok_are_houses (T : Txt K mg a fd C tk) : FnOk P w K mg base CX0 4 (a 12) (fd 12) ["members", "value"] (spAreHouses K) := by
  have G_is_list : FnOk P w K mg base CX0 1 (a 2) (fd 2) ["value"] (spIsList K) := ok_is_list T
  have G_is_number_below : FnOk P w K mg base CX0 3 (a 3) (fd 3) ["value", "many"] (spBelow K) := ok_is_number_below T
  refine T.F_are_houses.ok sc_are_houses (fun vs H Q E h => spP_len (fun _ => rfl) h) (fun cdv A outer s H vs Q E hr h => ?_)
  obtain ⟨S, ⟨ms, c, ns⟩, kn, hd, ⟨hin, nd, hl⟩, q⟩ := h
  obtain - | ⟨hm, - | ⟨hd, ⟨⟩⟩⟩ := hd
  rename_i vm v
  replace hm : Dp K (off S H) vm (.tuple (ms.map nD)) := hm
  replace hd : Dp K (off S H) v (sq c (ns.map nD)) := hd
  replace hin : ∀ n ∈ ns, n < 24 ∧ n ∈ ms := hin
  replace hl : ns.length ≤ 1000 := hl
  replace nd : ns.Nodup := nd
  have hl' : (ns.map nD).length ≤ 100000 := by rw [List.length_map]; omega
  have item : ∀ {j d}, (ns.map nD)[j]? = some d → ∃ n, n ∈ ns ∧ ns[j]? = some n ∧ d = PyData.int ((n : Nat) : Int) := fun {j d} h => by
    rw [List.getElem?_map] at h
    cases e : ns[j]? with
    | none => rw [e] at h; cases h
    | some n => rw [e] at h; exact ⟨n, List.mem_of_getElem? e, e, (Option.some.inj h).symm⟩
  refine ⟨_, (pss_cons (ps_if (PW.pt (pw_or (pt_not (pt_val (pe_call G_is_list (hr.mono (by omega)) (by rfl) T.m_is_list T.F_is_list.kp T.b_is_list .nil pass0 (pa_cons (pv 1) pa_nil)))) (pw_or1 (pt_not (pt_val (pe_callB (k_all (K := K) rfl) (by rfl) T.z_all (by decide +kernel) (pa_cons (pe_lc (own := [("house", 3)]) (g := gName 3) (tt := tYes) rfl sc_are_houses.nd (k_pi (K := K) (pv 1)) (blkOk_by (own := [("house", 3)]) (N := are_houses_N) (sc := defScope are_houses_s) (by decide +kernel)) (fun _ _ _ _ _ => (pg_name (i := 3) sc_are_houses.nd rfl (Or.inl rfl))) (fun _ _ _ _ _ => pts_nil) (fun _ _ _ _ _ => (pe_call G_is_number_below (hr.mono (by omega)) (by rfl) T.m_is_number_below T.F_is_number_below.kp T.b_is_number_below .nil pass0 (pa_cons (pv 3) (pa_cons (pe_glob (v := .int 24) (by rfl) T.m_HOUSES ⟨_, rfl⟩) pa_nil))))) pa_nil)))))))
        (pss_one (ps_ret pe_bl)) pss_nil)
      (pss_cons (ps_setDc (i := 2) (own := [("house", 3)]) (g := gName 3) (tt := tYes) rfl sc_are_houses.nd rfl rfl (sw_dict rfl rfl rfl (by decide +kernel)) (k_pi (K := K) (pv 1)) (blkOk_by (own := [("house", 3)]) (N := are_houses_N) (sc := defScope are_houses_s) (by decide +kernel)) (fun _ _ _ _ _ => (pg_name (i := 3) sc_are_houses.nd rfl (Or.inl rfl))) (fun _ _ _ _ _ => pts_nil) (fun _ _ _ _ _ => (pv 3)) (fun _ _ _ _ _ => pe_bl))
      (pss_one (ps_ret (pe_and (pe_cmpR op_eq (pe_callB call_lenD (by rfl) T.z_len (by decide +kernel) (pa_cons (pv 2) pa_nil)) (pe_callB (k_len (K := K)) (by rfl) T.z_len (by decide +kernel) (pa_cons (pv 1) pa_nil)) (nomark _)) (pe_one (pe_callB (k_all (K := K) rfl) (by rfl) T.z_all (by decide +kernel) (pa_cons (pe_lc (own := [("house", 3)]) (g := gName 3) (tt := tYes) rfl sc_are_houses.nd (k_pi (K := K) (pv 1)) (blkOk_by (own := [("house", 3)]) (N := are_houses_N) (sc := defScope are_houses_s) (by decide +kernel)) (fun _ _ _ _ _ => (pg_name (i := 3) sc_are_houses.nd rfl (Or.inl rfl))) (fun _ _ _ _ _ => pts_nil) (fun _ _ _ _ _ => (pe_cmpR (k_in (K := K)) (pv 3) (pv 0) (by rfl)))) pa_nil)))))))), ?_⟩
  refine s_seq (s_if (b_or (b_not (b_val (t_call1 (t_var rfl (spP_bl off_sub (sq c (ns.map nD)) (.cons hd .nil) trivial rfl fun H1 s1 => ⟨_, rfl, ifF (by rw [isListD_sq]; rfl) ?_⟩)))))))
  have kn1 := kn.same s1
  have hm1 := dp_same (off_same s1) _ _ hm
  have hd1 := dp_same (off_same s1) _ _ hd
  refine b_not (b_val (t_cb1 (lc_seq (b := c) (ds := ns.map nD) (fun _ => .bool true) kn1 (fun Q q => t_var rfl (q _ _ (Same.refl _) hd1)) hl' (fun _ => rfl) (fun j x d H2 S' dj s2 kn2 dx hS hoff Q q => ?_) fun D H2 ys hD s2 hd2 h2 => ?_)))
  · obtain ⟨n, hn, _, rfl⟩ := item dj
    refine t_call2 (t_var rfl (t_c (spP_bl off_sub (PyData.int ((n : Nat) : Int), (24 : Int)) (DpAll.cons dx (DpAll.cons (Dp.int 24) DpAll.nil)) trivial rfl fun H3 s3 => q _ _ s3 (dp_bl ?_))))
    have := (hin n hn).1
    simp [belowD]; omega
  · refine all_d (bs := (List.range (ns.map nD).length).map fun _ => true) off_sub (by rw [List.map_map]; exact h2) ⟨_, rfl, ifF (by rw [all_map fun _ _ => rfl]; rfl) (s_next ?_)⟩
    have kn2 := kn1.same s2
    have hd2' := dp_same (off_same s2) _ _ hd1
    have hm2 := dp_same (off_same s2) _ _ hm1
    -- the dict
    refine s_seq (s_set (t_dc (it_any (b := c) (ds := ns.map nD) (S := S) (fun Q q => t_var rfl (q _ _ (Same.refl _) hd2')) fun J xs H3 s3 ha w U hU => ?_)))
    have ex := dpa_ints (ns := ns.map fun m : Nat => ((m : Nat) : Int)) (by rw [← nD_map]; exact ha)
    have lx : xs.length = ns.length := by rw [ex]; simp
    refine wlk w (fun x H' Nx => gName 3 x (wipe (L2.start are_houses_N [vm, v]) [3]) H' fun σ2 H2 => wipe σ2 [3] = wipe (L2.start are_houses_N [vm, v]) [3] ∧ tYes σ2 H2 fun b H3 => if b = true then tVar 3 σ2 H3 fun y H4 => tC (.bl true) σ2 H4 fun z H5 => ∃ kvs k, y = kV k ∧ H5 U = some (.dK kvs) ∧ kvs.length < sizeLine ∧ Nx (upd H5 U (.dK (putK kvs k z))) else Nx H3)
      (fun i H' => H' U = some (.dK ((ns.take i).map fun n : Nat => ((Sum.inl ((n : Nat) : Int) : Key), V.bl true))) ∧ Same H3 H') ⟨upd_same, same_new hU⟩ (fun i H' _ h => off_sub.trans h.2) ?_ fun H4 h4 => ?_
    · rintro i x H4 H5 hi ⟨hU4, s4⟩ ⟨rfl, xi⟩
      rw [lx] at hi
      rw [ex, List.map_map, List.getElem?_map, List.getElem?_eq_getElem hi] at xi
      cases xi
      refine ⟨rfl, t_yes (t_var rfl (t_c ⟨_, Sum.inl ((ns[i] : Nat) : Int), rfl, hU4, ?_, ?_, smut s4 hU⟩))⟩
      · rw [List.length_map, List.length_take]
        exact Nat.lt_of_le_of_lt (show min i ns.length ≤ 1000 by omega) (by decide)
      · rw [putK_new, upd_same, List.take_add_one, List.getElem?_eq_getElem hi, List.map_append]
        · rfl
        · have h0 := valV_any (Sum.inl ((ns[i] : Nat) : Int) : Key) ((ns.take i).map fun n : Nat => ((Sum.inl ((n : Nat) : Int) : Key), V.bl true))
          cases hq : valV ((ns.take i).map fun n : Nat => ((Sum.inl ((n : Nat) : Int) : Key), V.bl true)) (Sum.inl ((ns[i] : Nat) : Int) : Key) with
          | none => rfl
          | some z =>
            rw [hq] at h0
            obtain ⟨kv, hkv, he⟩ := List.any_eq_true.mp (h0.trans rfl)
            obtain ⟨m, hm, rfl⟩ := List.mem_map.mp hkv
            have e1 : (Sum.inl ((m : Nat) : Int) : Key) = Sum.inl ((ns[i] : Nat) : Int) := of_decide_eq_true he
            have e2 : m = ns[i] := by have := Sum.inl.inj e1; omega
            rw [e2] at hm
            obtain ⟨j, hj, ej⟩ := List.mem_take_iff_getElem.mp hm
            have hj2 : j < ns.length := by omega
            have := (List.getElem_inj (h₀ := hj2) (h₁ := hi) nd).mp ej
            omega
    · obtain ⟨hU4, s4⟩ := h4
      rw [lx, List.take_length] at hU4
      have sm : Same H2 H4 := s3.trans s4
      have hd4 := dp_same (off_same sm) _ _ hd2'
      have hm4 := dp_same (off_same sm) _ _ hm2
      refine nx_of ?_
      refine s_ret (t_andV (t_op (t_cb (a_cons (t_var rfl (a_nil ?_))))))
      refine ⟨U, _, rfl, hU4, ?_⟩
      refine t_cb1 (t_var rfl ?_)
      refine len_d off_sub hd4 (items_sq c _) ?_
      refine ⟨rfl, ?_⟩
      refine bl_if (fun _ => ?_) (fun e => absurd (of_decide_eq_false e) (by simp))
      refine t_cb1 (lc_seq (b := c) (ds := ns.map nD) (fun _ => .bool true) (kn2.same sm) (fun Q q => t_var rfl (q _ _ (Same.refl _) hd4)) hl' (fun _ => rfl) (fun j x d H5 S' dj s5 kn5 dx hS hoff Q q => ?_) fun D' H5 ys' hD' s5 hd5 h5 => ?_)
      · obtain ⟨n, hn, _, rfl⟩ := item dj
        cases dx
        refine t_op (t_var rfl (t_var rfl (in_d (ns := ms.map fun m : Nat => ((m : Nat) : Int)) off_sub (dp_same hoff _ _ hm4) (by rw [← nD_map]; rfl) (q _ _ (Same.refl _) (dp_bl ?_)))))
        exact decide_eq_true (mem_ints.mpr (hin n hn).2)
      · refine all_d (bs := (List.range (ns.map nD).length).map fun _ => true) off_sub (by rw [List.map_map]; exact h5) (q _ _ (((s1.trans s2).trans sm).trans s5) (dp_bl ?_))
        exact all_map fun _ _ => rfl
end
end K31

set_option maxRecDepth 100000
set_option maxHeartbeats 1000000
/-! [e for x in range(n) if t]; fields; makes -/
namespace Kh
open PySem PySem.Spec PyProof.Rows L2
theorem lc_rngF {K : PySem.W.Frag} {S : Addr → Prop} {H : Hp} {σ : L2.St} {te : TE} {tt : TT} {sl : Nat} {vs : List Nat} {Q : VK} {n : Nat} {ta : TA} (pt : Nat → Bool) (f : Nat → PyData) (kn : Kn S H) (hn : n ≤ 100000)
    (hev : ∀ q : List V → Hp → Prop, (∀ H1, Same H H1 → q [.int (n : Nat)] H1) → ta σ H q) (hw : ∀ x, wipe ((wipe σ vs).set sl (some x)) vs = wipe σ vs)
    (test : ∀ j H1 S', j < n → Same H H1 → Kn S' H1 → (∀ a, S a → S' a) → Same (off S H) (off S' H1) → ∀ Q : Bool → Hp → Prop, (∀ H', Same H1 H' → Q (pt j) H') → tt ((wipe σ vs).set sl (some (.int (j : Nat)))) H1 Q)
    (body : ∀ j H1 S', j < n → pt j = true → Same H H1 → Kn S' H1 → (∀ a, S a → S' a) → Same (off S H) (off S' H1) → ∀ Q : VK, (∀ y H', Same H1 H' → Dp K (off S' H') y (f j) → Q y H') → te ((wipe σ vs).set sl (some (.int (j : Nat)))) H1 Q)
    (done : ∀ D H1 ys, H D = none → Same H H1 → H1 D = some (.lst ys) → Dp K (off S H1) (.ref D) (.list (((List.range n).filter pt).map f)) → Q (.ref D) H1) :
    tLc (iRng1 ta) (gName sl) tt te vs σ H Q := by
  refine hev _ fun H0 s0 => ⟨(n : Nat), rfl, by omega, by omega, ?_⟩
  have kn0 := kn.same s0
  intro D hD
  have w : Walk (Itr 0 n) n (fun _ => True) (YFn fun i => .int (0 + i)) := walk_range
  refine lc_filt (Qd := Q (.ref D)) w (fun j x => x = .int (j : Nat)) (fun i H x H' _ y => ⟨y.1, by rw [y.2]; show V.int (0 + _) = _; rw [Int.zero_add]⟩) pt (fun j y H => Dp K (off (plus S D) H) y (f j)) (fun H s => trivial) hD hn hw (fun j y H H' e h => dp_same (off_but e) _ _ h) (fun j x H1 hj xj s hd Q q => ?_) (fun j x H1 hj xj pj s hd Q q => ?_) (fun ys H1 py s hd => ?_)
  · subst xj
    exact test j H1 (plus S D) hj (s0.trans s) ((kn0.same s).plus hd) (fun _ h => .inl h) ((off_same s0).trans (off_plus hD s)) Q q
  · subst xj
    exact body j H1 (plus S D) hj pj (s0.trans s) ((kn0.same s).plus hd) (fun _ h => .inl h) ((off_same s0).trans (off_plus hD s)) Q q
  · refine done D H1 ys (s0.free hD) (s0.trans s) hd (dp_lst (kn0.new hD) hd ?_)
    refine dpa_same (off_fin (D := D)) _ _ ?_
    have go : ∀ {l : List Nat} {ys : List V}, Paired (fun j y => Dp K (off (plus S D) H1) y (f j)) l ys → DpAll K (off (plus S D) H1) ys (l.map f) := by
      intro l ys p
      induction p with
      | nil => exact .nil
      | cons r t ih => exact .cons r ih
    exact go py
section
variable {σ : L2.St} {H : Hp} {Q : VK} {D : Ends} {te ta tb tc : TE} {K : PySem.W.Frag} {sp : Sp} {E : XK} {C : Addr}
theorem s_fld {f : Str} (h : tb σ H fun y H1 => ta σ H1 fun x H2 => ∃ a C dx fs, x = .ref a ∧ H2 a = some (.ins C dx fs) ∧ Cls K C ∧ NoAttr K C f ∧ fs.length < 1000 ∧ D.nx σ (upd H2 a (.ins C dx (putF f y fs)))) : sFld K ta tb f D σ H := h
theorem t_fld {f : Str} (h : ta σ H fun x H1 => ∃ a C dx fs v, x = .ref a ∧ H1 a = some (.ins C dx fs) ∧ Cls K C ∧ NoAttr K C f ∧ fs.lookup f = some v ∧ Q v H1) : tFld K ta f σ H Q := h
theorem t_prop (h : ta σ H fun x H1 => ∃ a dx fs, x = .ref a ∧ H1 a = some (.ins C dx fs) ∧ sp [.ref a] H1 Q E) : tProp C sp [] E ta σ H Q := h
theorem t_meth0 {m : Str} (h : ta σ H fun x H1 => ∃ a dx fs, x = .ref a ∧ H1 a = some (.ins C dx fs) ∧ fs.lookup m = none ∧ sp [x] H1 Q E) : tMeth C m sp [] E ta tNil σ H Q := h
theorem t_meth1 {m : Str} (h : ta σ H fun x H1 => ∃ a dx fs, x = .ref a ∧ H1 a = some (.ins C dx fs) ∧ fs.lookup m = none ∧ tb σ H1 fun y H2 => sp [x, y] H2 Q E) : tMeth C m sp [] E ta (tCons tb tNil) σ H Q := h
theorem t_make1 (h : ta σ H fun y H1 => ∀ x dx, H1 x = none → H1 dx = none → dx ≠ x → sp [.ref x, y] (upd (upd H1 dx (.own x)) x (.ins C dx [])) (fun v H2 => v = .non ∧ Q (.ref x) H2) E) : tMake C sp [] E (tCons ta tNil) σ H Q := h
end
end Kh

set_option maxRecDepth 100000
set_option maxHeartbeats 4000000
namespace K31
open PySem PySem.Spec PyProof.Rows L2 Kh
/-- what of the class Tree is told -/
structure TxC (K : PySem.W.Frag) (mg : Str → Option Value) (a : Nat → Addr) (C : Addr) : Prop where
  cls : Cls K C
  n_shape : NoAttr K C "_shape"
  n_leaves : NoAttr K C "_leaves"
  n_members : NoAttr K C "_members"
  M_Tree : Mk K C (a 13)
  m_Tree : mg "Tree" = some (.ref C)
  me_members : Meth K C "members" (a 16)
  me_stands : Meth K C "stands" (a 17)
  p_shape : ∃ p, PropOf K C "shape" p (a 14)
  p_is_plain : ∃ p, PropOf K C "is_plain" p (a 15)
  me_invert : Meth K C "__invert__" (a 18)
  me_eq : Meth K C "__eq__" (a 19)
/-- the houses of a tree, in their order -/
def mem (t : Kh.T) : List Nat := (List.range 24).filter fun n => decide (n ∈ lv t)
def flds (v1 v2 v3 : V) : List (Str × V) := [("_shape", v1), ("_leaves", v2), ("_members", v3)]
/-- at x stands the object of a tree -/
def TreeAt (K : PySem.W.Frag) (C : Addr) (H : Hp) (t : Kh.T) (x : Addr) : Prop := ∃ dx v1 v2 v3, H x = some (.ins C dx (flds v1 v2 v3)) ∧
  Dp K H v1 (tD (flg true t)) ∧ Dp K H v2 (.tuple ((lv t).map nD)) ∧ Dp K H v3 (.tuple ((mem t).map nD))
theorem TreeAt.same {K : PySem.W.Frag} {C : Addr} {H H' : Hp} {t : Kh.T} {x : Addr} (h : TreeAt K C H t x) (e : Same H H') : TreeAt K C H' t x := by
  obtain ⟨dx, v1, v2, v3, h0, h1, h2, h3⟩ := h
  exact ⟨dx, v1, v2, v3, e _ _ h0, dp_same e _ _ h1, dp_same e _ _ h2, dp_same e _ _ h3⟩
/-- a tree that can be made -/
def Okt (t : Kh.T) : Prop := Wf t ∧ (lv t).length ≤ 24 ∧ dep t ≤ 5 ∧ ((lv t).length ≤ (mem t).length ∨ (mem t).length ≤ 8)
theorem Okt.sm {t : Kh.T} (h : Okt t) : Sm t := ⟨h.1, Nat.le_trans h.2.1 (by decide)⟩
theorem siz_le : ∀ t d, Wf t → dep t ≤ d → siz t ≤ (d + 1) * (lv t).length := by
  intro t
  refine Kh.T.ind (P := fun t => ∀ d, Wf t → dep t ≤ d → siz t ≤ (d + 1) * (lv t).length) (fun n d _ _ => by rw [lv_leaf]; simp [siz]) (fun b k ps ih d wf dp => ?_) t
  cases d with
  | zero => exact absurd dp (dep_gate0 b k ps)
  | succ d =>
    obtain ⟨k1, k2, wfs⟩ := (wf_gate b k ps).mp wf
    have dps := (dep_gate b k ps).mp dp
    have pos := lv_pos _ wf
    rw [lv_gate] at pos ⊢
    have go : ∀ qs : List Kh.T, (∀ p ∈ qs, p ∈ ps) → sizs qs ≤ (d + 1) * (qs.flatMap lv).length := by
      intro qs
      induction qs with
      | nil => intro _; simp [sizs]
      | cons p r ih2 =>
        intro hq
        have h1 := ih p (hq p List.mem_cons_self) d (wfs p (hq p List.mem_cons_self)) (dps p (hq p List.mem_cons_self))
        have h2 := ih2 fun q h => hq q (List.mem_cons_of_mem _ h)
        rw [sizs, List.flatMap_cons, List.length_append, Nat.mul_add]
        omega
    have h := go ps fun p h => h
    have e : siz (.gate b k ps) = 1 + sizs ps := by rw [siz]
    rw [e]
    have e2 : (d + 1 + 1) * (ps.flatMap lv).length = (d + 1) * (ps.flatMap lv).length + (ps.flatMap lv).length := by rw [Nat.add_mul (d + 1) 1, Nat.one_mul]
    rw [e2]; omega
theorem Okt.siz {t : Kh.T} (h : Okt t) : siz t ≤ 100000 := by
  have h1 := siz_le t 5 h.1 h.2.2.1
  have h2 := h.2.1
  omega
theorem mem_le (t : Kh.T) : (mem t).length ≤ 24 := by
  have := List.length_filter_le (fun n => decide (n ∈ lv t)) (List.range 24)
  rwa [List.length_range] at this
section
variable {P : Program} {w : World} {K : PySem.W.Frag} {mg : Str → Option Value} {base : Heap} {a : Nat → Addr} {fd : Nat → FuncData} {C : Addr} {tk : Nat → Tok}
def spInit (K : PySem.W.Frag) (C : Addr) : Sp := fun vs H Q _ => ∃ (S : Addr → Prop) (x : Addr) (dx : Addr) (v : V) (t : Kh.T), vs = [.ref x, v] ∧ Kn S H ∧ S x ∧ H x = some (.ins C dx []) ∧ Dp K (off S H) v (tD t) ∧ Okt t ∧
  ∀ H' v1 v2 v3, SameBut x H H' → H' x = some (.ins C dx (flds v1 v2 v3)) → Dp K (off S H') v1 (tD (flg true t)) → Dp K (off S H') v2 (.tuple ((lv t).map nD)) → Dp K (off S H') v3 (.tuple ((mem t).map nD)) → Q .non H'
theorem off_bt {S : Addr → Prop} {x : Addr} {H H' : Hp} (hx : S x) (e : SameBut x H H') : Same (off S H) (off S H') := fun b o h => by
  obtain ⟨n, h⟩ := off_some h
  rw [off_out n]
  exact e b o (fun z => n (z ▸ hx)) h
theorem kn_bt {S : Addr → Prop} {x : Addr} {H H' : Hp} (kn : Kn S H) (e : SameBut x H H') (hx : H' x ≠ none) : Kn S H' := fun b z => by
  by_cases q : b = x
  · subst q; exact hx
  · cases h : H b with
    | none => exact (kn b z h).elim
    | some o => rw [e b o q h]; exact fun z => nomatch z
theorem ok_Tree_init (T : Txt K mg a fd C tk) (U : TxC K mg a C) : FnOk P w K mg base CX0 8 (a 13) (fd 13) ["self", "shape"] (spInit K C) := by
  have G_is_tree : FnOk P w K mg base CX0 5 (a 5) (fd 5) ["value"] (spIsTree K) := ok_is_tree T
  have G_firm := ok_firm (P := P) (w := w) (base := base) T 6
  have G_leaves := ok_leaves (P := P) (w := w) (base := base) T 6
  have G_depth := ok_depth (P := P) (w := w) (base := base) T 6
  refine T.F_Tree_init.ok sc_Tree_init (fun vs H Q E h => by obtain ⟨_, _, _, _, _, rfl, _⟩ := h; rfl) (fun cdv A outer s H vs Q E hr h => ?_)
  obtain ⟨S, x, dx, v, t, rfl, kn, hS, hx, hd, ok, q⟩ := h
  have pre : preT 6 t := ⟨ok.sm, Nat.lt_succ_of_le ok.2.2.1⟩
  refine ⟨_, (pss_cons (ps_if (pt_not (pt_val (pe_call G_is_tree (hr.mono (by omega)) (by rfl) T.m_is_tree T.F_is_tree.kp T.b_is_tree .nil pass0 (pa_cons (pv 1) pa_nil))))
        (pss_one ps_never) pss_nil)
      (pss_cons (ps_fld (pv 0) (pe_call G_firm (hr.mono (by omega)) (by rfl) T.m_firm T.F_firm.kp T.b_firm .nil pass0 (pa_cons (pv 1) pa_nil)) rfl)
      (pss_cons (ps_fld (pv 0) (pe_callTy (k_tup (K := K)) (by rfl) T.z_tuple (by decide +kernel) (pa_cons (pe_call G_leaves (hr.mono (by omega)) (by rfl) T.m_leaves T.F_leaves.kp T.b_leaves .nil pass0 (pa_cons (pv 1) pa_nil)) pa_nil)) rfl)
      (pss_cons (ps_fld (pv 0) (pe_callTy (k_tup (K := K)) (by rfl) T.z_tuple (by decide +kernel) (pa_cons (pe_lc (own := [("house", 2)]) (g := gName 2) (tt := _) rfl sc_Tree_init.nd (pi_range1 (by rfl) T.z_range (pa_cons (pe_glob (v := .int 24) (by rfl) T.m_HOUSES ⟨_, rfl⟩) pa_nil)) (blkOk_by (own := [("house", 2)]) (N := Tree_init_N) (sc := defScope Tree_init_s) (by decide +kernel)) (fun _ _ _ _ _ => (pg_name (i := 2) sc_Tree_init.nd rfl (Or.inl rfl))) (fun _ _ _ _ _ => (pts_one (pt_cmpR (k_in (K := K)) (pv 2) (k_fld (K := K) (pv 0) rfl) (by rfl)))) (fun _ _ _ _ _ => (pv 2))) pa_nil)) rfl)
      (pss_cons (ps_if (pt_cmpR op_gt (pe_callB (k_len (K := K)) (by rfl) T.z_len (by decide +kernel) (pa_cons (k_fld (K := K) (pv 0) rfl) pa_nil)) (pe_glob (v := .int 24) (by rfl) T.m_MOST_LEAVES ⟨_, rfl⟩) (nomark _))
        (pss_one ps_never) pss_nil)
      (pss_cons (ps_if (pt_cmpR op_gt (pe_call G_depth (hr.mono (by omega)) (by rfl) T.m_depth T.F_depth.kp T.b_depth .nil pass0 (pa_cons (pv 1) pa_nil)) (pe_glob (v := .int 5) (by rfl) T.m_MOST_DEPTH ⟨_, rfl⟩) (nomark _))
        (pss_one ps_never) pss_nil)
      (pss_one (ps_if (PW.pt (pw_and (pt_cmpR op_lt (pe_callB (k_len (K := K)) (by rfl) T.z_len (by decide +kernel) (pa_cons (k_fld (K := K) (pv 0) rfl) pa_nil)) (pe_callB (k_len (K := K)) (by rfl) T.z_len (by decide +kernel) (pa_cons (k_fld (K := K) (pv 0) rfl) pa_nil)) (nomark _)) (pw_and1 (pt_cmpR op_gt (pe_callB (k_len (K := K)) (by rfl) T.z_len (by decide +kernel) (pa_cons (k_fld (K := K) (pv 0) rfl) pa_nil)) (pe_glob (v := .int 8) (by rfl) T.m_MOST_MIXED ⟨_, rfl⟩) (nomark _)))))
        (pss_one ps_never) pss_nil)))))))), ?_⟩
  refine s_seq (s_if (b_not (b_val (t_call1 (t_var rfl (spP_bl off_sub t (.cons hd .nil) ⟨ok.1, ok.siz⟩ rfl fun H1 s1 => ⟨_, rfl, ifF rfl (s_next ?_)⟩))))))
  have kn1 := kn.same s1
  have hd1 := dp_same (off_same s1) _ _ hd
  have hx1 := s1 _ _ hx
  refine s_seq (s_fld (t_call1 (t_var rfl ⟨S, t, kn1, .cons hd1 .nil, pre, fun v1 H2 s2 d1 => ?_⟩)))
  have hx2 := s2 _ _ hx1
  refine t_var rfl ⟨x, C, dx, [], rfl, hx2, U.cls, U.n_shape, by decide, ?_⟩
  have b2 : SameBut x H (upd H2 x (.ins C dx [("_shape", v1)])) := bmut (sbut (s1.trans s2))
  have d1 := dp_same (off_bt (H' := upd H2 x (.ins C dx [("_shape", v1)])) hS (bmut (sbut (Same.refl H2)))) _ _ d1
  have hx2 : (upd H2 x (.ins C dx [("_shape", v1)])) x = some (.ins C dx [("_shape", v1)]) := upd_same
  generalize hH : upd H2 x (.ins C dx [("_shape", v1)]) = H2' at d1 b2 hx2
  rw [show upd H2 x (HO.ins C dx (putF "_shape" v1 [])) = H2' from hH]
  have kn2 := kn_bt kn b2 (some_ne hx2)
  have hd2 := dp_same (off_bt hS b2) _ _ hd
  refine s_seq (s_fld (t_cb1 (t_call1 (t_var rfl ⟨S, t, kn2, .cons hd2 .nil, pre, fun u H3 s3 du => ?_⟩))))
  refine tup_d (kn2.same s3) du rfl fun v2 H4 s4 d2 => ?_
  have hx4 := s4 _ _ (s3 _ _ hx2)
  refine t_var rfl ⟨x, C, dx, [("_shape", v1)], rfl, hx4, U.cls, U.n_leaves, (by show (1 : Nat) < 1000; decide), ?_⟩
  have e4 : SameBut x H2' (upd H4 x (.ins C dx [("_shape", v1), ("_leaves", v2)])) := bmut (sbut (s3.trans s4))
  have d2 := dp_same (off_bt (H' := upd H4 x (.ins C dx [("_shape", v1), ("_leaves", v2)])) hS (bmut (sbut (Same.refl H4)))) _ _ d2
  have hx4 : (upd H4 x (.ins C dx [("_shape", v1), ("_leaves", v2)])) x = some (.ins C dx [("_shape", v1), ("_leaves", v2)]) := upd_same
  generalize hH : upd H4 x (.ins C dx [("_shape", v1), ("_leaves", v2)]) = H4' at d2 e4 hx4
  rw [show upd H4 x (HO.ins C dx (putF "_leaves" v2 [("_shape", v1)])) = H4' from hH]
  have kn4 := kn_bt kn2 e4 (some_ne hx4)
  have hd4 := dp_same (off_bt hS e4) _ _ hd2
  have d1 := dp_same (off_bt hS e4) _ _ d1
  refine s_seq (s_fld (t_cb1 (lc_rngF (K := K) (n := 24) (fun j => decide (j ∈ lv t)) nD kn4 (by decide) (fun q h => a_cons (t_c (a_nil (h _ (Same.refl _))))) (fun _ => rfl) (fun j H5 S' hj s5 kn5 hS' off5 Q q => ?_) (fun j H5 S' hj pj s5 kn5 hS' off5 Q q => ?_) fun D H5 ys hD s5 hd5 d5 => ?_)))
  · refine b_test (t_op (t_var rfl (t_fld (t_var rfl ⟨x, C, dx, _, v2, rfl, s5 _ _ hx4, U.cls, U.n_leaves, rfl, ?_⟩))))
    refine in_d (ns := (lv t).map fun m : Nat => ((m : Nat) : Int)) off_sub (dp_same off5 _ _ d2) (by rw [← nD_map]; rfl) ⟨_, rfl, ?_⟩
    have e : decide (((j : Nat) : Int) ∈ (lv t).map fun m : Nat => ((m : Nat) : Int)) = decide (j ∈ lv t) := decide_eq_decide.mpr mem_ints
    show Q (decide (((j : Nat) : Int) ∈ (lv t).map fun m : Nat => ((m : Nat) : Int))) H5
    rw [e]; exact q _ (Same.refl _)
  · exact t_var rfl (q _ _ (Same.refl _) (Dp.int _))
  · refine tup_d (kn4.same s5) d5 rfl fun v3 H6 s6 d3 => ?_
    have hx6 := s6 _ _ (s5 _ _ hx4)
    refine t_var rfl ⟨x, C, dx, _, rfl, hx6, U.cls, U.n_members, (by show (2 : Nat) < 1000; decide), ?_⟩
    have e6 : SameBut x H4' (upd H6 x (.ins C dx (flds v1 v2 v3))) := bmut (sbut (s5.trans s6))
    have d3 := dp_same (off_bt (H' := upd H6 x (.ins C dx (flds v1 v2 v3))) hS (bmut (sbut (Same.refl H6)))) _ _ d3
    have hx6 : (upd H6 x (.ins C dx (flds v1 v2 v3))) x = some (.ins C dx (flds v1 v2 v3)) := upd_same
    generalize hH : upd H6 x (.ins C dx (flds v1 v2 v3)) = H6' at d3 e6 hx6
    rw [show upd H6 x (HO.ins C dx (putF "_members" v3 [("_shape", v1), ("_leaves", v2)])) = H6' from hH]
    have b6 : SameBut x H H6' := fun b o n h => e6 b o n (e4 b o n (b2 b o n h))
    have kn6 := kn_bt kn b6 (some_ne hx6)
    have hd6 := dp_same (off_bt hS b6) _ _ hd
    have d1 := dp_same (off_bt hS e6) _ _ d1
    have d2 := dp_same (off_bt hS e6) _ _ d2
    refine nx_of (s_seq (s_if (b_test (t_op (t_cb1 (t_fld (t_var rfl ⟨x, C, dx, _, v2, rfl, hx6, U.cls, U.n_leaves, rfl, len_d off_sub d2 rfl (t_c ⟨_, _, rfl, rfl, ?_⟩)⟩)))))))
    refine ⟨_, rfl, ifF (decide_eq_false ?_) (s_next ?_)⟩
    · rw [List.length_map]; have := ok.2.1; omega
    refine s_seq (s_if (b_test (t_op (t_call1 (t_var rfl (spP_int off_sub t (.cons hd6 .nil) pre rfl fun H7 s7 => t_c ⟨_, _, rfl, rfl, ?_⟩))))))
    refine ⟨_, rfl, ifF (decide_eq_false ?_) (s_next ?_)⟩
    · have := ok.2.2.1; omega
    have hx7 := s7 _ _ hx6
    have d1 := dp_same (off_same s7) _ _ d1
    have d2 := dp_same (off_same s7) _ _ d2
    have d3 := dp_same (off_same s7) _ _ d3
    refine s_if (b_and (b_test (t_op (t_cb1 (t_fld (t_var rfl ⟨x, C, dx, _, v3, rfl, hx7, U.cls, U.n_members, rfl, len_d off_sub d3 rfl ?_⟩))))))
    refine t_cb1 (t_fld (t_var rfl ⟨x, C, dx, _, v2, rfl, hx7, U.cls, U.n_leaves, rfl, len_d off_sub d2 rfl ⟨_, _, rfl, rfl, ?_⟩⟩))
    have fin : Q .non H7 := q H7 v1 v2 v3 (fun b o n h => s7 b o (b6 b o n h)) hx7 d1 d2 d3
    refine ⟨_, rfl, if_b (fun c => ?_) (fun c => ?_)⟩
    · refine b_test (t_op (t_cb1 (t_fld (t_var rfl ⟨x, C, dx, _, v3, rfl, hx7, U.cls, U.n_members, rfl, len_d off_sub d3 rfl (t_c ⟨_, _, rfl, rfl, ?_⟩)⟩))))
      refine ⟨_, rfl, ifF (decide_eq_false ?_) (s_next fin)⟩
      have := of_decide_eq_true c
      rw [List.length_map] at this ⊢
      rw [List.length_map] at this
      have em : ((List.range 24).filter fun j => decide (j ∈ lv t)).length = (mem t).length := rfl
      rcases ok.2.2.2 with h | h <;> omega
    · exact ifF rfl (s_next fin)
end
end K31

set_option maxRecDepth 100000
set_option maxHeartbeats 4000000
namespace K31
open PySem PySem.Spec PyProof.Rows L2 Kh
section
variable {P : Program} {w : World} {K : PySem.W.Frag} {mg : Str → Option Value} {base : Heap} {a : Nat → Addr} {fd : Nat → FuncData} {C : Addr} {tk : Nat → Tok}
theorem same_ins {H : Hp} {x dx : Addr} {o o' : HO} (h1 : H x = none) (h2 : H dx = none) : Same H (upd (upd H dx o) x o') := fun b u e => by
  rw [upd_ne (ne_of_none e h1), upd_ne (ne_of_none e h2)]; exact e
/-- Tree(v), v of t -/
theorem mk_tree {S : Addr → Prop} {σ : L2.St} {H : Hp} {ta : TE} {Q : VK} (t : Kh.T) (ok : Okt t) (kn : Kn S H)
    (hev : ∀ Q : VK, (∀ u H1, Same H H1 → Dp K (off S H1) u (tD t) → Q u H1) → ta σ H Q)
    (q : ∀ x H', Same H H' → TreeAt K C (off S H') t x → Q (.ref x) H') : tMake C (spInit K C) [] E0 (tCons ta tNil) σ H Q := by
  refine t_make1 (hev _ fun u H1 s1 du x dx hx hdx ne => ?_)
  have kn1 := kn.same s1
  have sm := same_ins (o := HO.own x) (o' := HO.ins C dx []) hx hdx
  have hup : (upd (upd H1 dx (.own x)) x (.ins C dx [])) x = some (.ins C dx []) := upd_same
  refine ⟨plus S x, x, dx, u, t, rfl, (kn1.same sm).plus (some_ne hup), .inr rfl, hup, dp_same ?_ _ _ du, ok, fun H' v1 v2 v3 sb hx' d1 d2 d3 => ⟨rfl, q x H' ?_ ⟨dx, v1, v2, v3, ?_, dp_same off_fin _ _ d1, dp_same off_fin _ _ d2, dp_same off_fin _ _ d3⟩⟩⟩
  · exact off_plus hx sm
  · intro b o h
    exact sb b o (ne_of_none (s1 b o h) hx) (sm b o (s1 b o h))
  · rw [off_out (kn1.new hx)]; exact hx'
/-- a method of a tree whose answer is data -/
def spM {α : Type} (K : PySem.W.Frag) (C : Addr) (enc : α → List PyData) (pre : Kh.T → α → Prop) (f : Kh.T → α → PyData) : Sp := fun vs H Q _ => ∃ (S : Addr → Prop) (t : Kh.T) (x : Addr) (y : α) (us : List V), vs = .ref x :: us ∧ Kn S H ∧ TreeAt K C (off S H) t x ∧ Okt t ∧ DpAll K (off S H) us (enc y) ∧ pre t y ∧
  ∀ v H', Same H H' → Dp K (off S H') v (f t y) → Q v H'
/-- without further parameters -/
abbrev spM0 (K : PySem.W.Frag) (C : Addr) (f : Kh.T → PyData) : Sp := spM K C (fun _ : Unit => []) (fun _ _ => True) (fun t _ => f t)
theorem spM_len {α : Type} {enc : α → List PyData} {pre : Kh.T → α → Prop} {f : Kh.T → α → PyData} {n : Nat} (hn : ∀ x, (enc x).length = n) {vs : List V} {H : Hp} {Q : VK} {E : XK} (h : spM K C enc pre f vs H Q E) : vs.length = n + 1 := by
  obtain ⟨S, t, x, y, us, rfl, _, _, _, hd, _⟩ := h
  rw [List.length_cons, dpa_len hd, hn]
theorem preOf {t : Kh.T} (ok : Okt t) : preT 6 t := ⟨ok.sm, Nat.lt_succ_of_le ok.2.2.1⟩
/-! flags make no difference -/
theorem lv_flg (c : Bool) : ∀ t, lv (flg c t) = lv t := Kh.T.ind (fun n => by rw [flg_leaf]) fun b k ps ih => by
  rw [flg_gate, lv_gate, lv_gate, List.flatMap_map]
  induction ps with
  | nil => rfl
  | cons p r ih2 =>
    rw [List.flatMap_cons, List.flatMap_cons, ih p List.mem_cons_self, ih2 fun q h => ih q (List.mem_cons_of_mem _ h)]
theorem wf_flg (c : Bool) : ∀ t, Wf (flg c t) ↔ Wf t := Kh.T.ind (fun n => by rw [flg_leaf]) fun b k ps ih => by
  rw [flg_gate, wf_gate, wf_gate, List.length_map]
  refine and_congr_right fun _ => and_congr_right fun _ => ⟨fun h p hp => (ih p hp).mp (h _ (List.mem_map_of_mem hp)), fun h p hp => ?_⟩
  obtain ⟨q, hq, rfl⟩ := List.mem_map.mp hp
  exact (ih q hq).mpr (h q hq)
theorem dep_flg (c : Bool) : ∀ t d, dep (flg c t) ≤ d ↔ dep t ≤ d := Kh.T.ind (fun n d => by rw [flg_leaf]) fun b k ps ih d => by
  rw [flg_gate]
  cases d with
  | zero => exact ⟨fun h => absurd h (dep_gate0 _ _ _), fun h => absurd h (dep_gate0 _ _ _)⟩
  | succ d =>
    rw [dep_gate, dep_gate]
    refine ⟨fun h p hp => (ih p hp d).mp (h _ (List.mem_map_of_mem hp)), fun h p hp => ?_⟩
    obtain ⟨q, hq, rfl⟩ := List.mem_map.mp hp
    exact (ih q hq d).mpr (h q hq)
theorem flg_flg (c e : Bool) : ∀ t, flg c (flg e t) = flg c t := Kh.T.ind (fun n => by rw [flg_leaf, flg_leaf]) fun b k ps ih => by
  rw [flg_gate, flg_gate, flg_gate, List.map_map]
  congr 1
  exact List.map_congr_left fun p hp => ih p hp
theorem con_flg (c : Bool) : ∀ t, con (flg c t) = con t := Kh.T.ind (fun n => by rw [flg_leaf]) fun b k ps ih => by
  rw [flg_gate, con_gate, con_gate, List.map_map, List.length_map]
  congr 1
  exact List.map_congr_left fun p hp => ih p hp
theorem filt_congr {α : Type} {p q : α → Bool} : ∀ {l : List α}, (∀ x ∈ l, p x = q x) → (l.filter p).length = (l.filter q).length
  | [], _ => rfl
  | x :: l, h => by
    have h1 := filt_congr (l := l) fun y hy => h y (List.mem_cons_of_mem _ hy)
    rw [List.filter_cons, List.filter_cons, h x List.mem_cons_self]
    cases q x <;> simp [h1]
theorem st_flg (c : Bool) (s : List Nat) : ∀ t, st s (flg c t) = st s t := Kh.T.ind (fun n => by rw [flg_leaf]) fun b k ps ih => by
  rw [flg_gate, st_gate, st_gate, List.filter_map, List.length_map]
  congr 1
  rw [filt_congr (p := st s ∘ flg c) (q := st s) fun p hp => ih p hp]
theorem mem_flg (c : Bool) (t : Kh.T) : mem (flg c t) = mem t := by unfold mem; rw [lv_flg]
theorem okt_flg {c : Bool} {t : Kh.T} (h : Okt t) : Okt (flg c t) := ⟨(wf_flg c t).mpr h.1, by rw [lv_flg]; exact h.2.1, (dep_flg c t 5).mpr h.2.2.1, by rw [lv_flg, mem_flg]; exact h.2.2.2⟩
theorem ok_Tree_shape (T : Txt K mg a fd C tk) (U : TxC K mg a C) : FnOk P w K mg base CX0 8 (a 14) (fd 14) ["self"] (spM0 K C fun t => tD (flg false t)) := by
  have G_listed := ok_listed (P := P) (w := w) (base := base) T 6
  refine T.F_Tree_shape.ok sc_Tree_shape (fun vs H Q E h => spM_len (fun _ => rfl) h) (fun cdv A outer s H vs Q E hr h => ?_)
  obtain ⟨S, t, x, y, us, rfl, kn, ⟨dx, v1, v2, v3, hx, d1, d2, d3⟩, ok, ⟨⟩, -, q⟩ := h
  refine ⟨_, (pss_one (ps_ret (pe_call G_listed (hr.mono (by omega)) (by rfl) T.m_listed T.F_listed.kp T.b_listed .nil pass0 (pa_cons (k_fld (K := K) (pv 0) rfl) pa_nil)))), ?_⟩
  refine s_ret (t_call1 (t_fld (t_var rfl ⟨x, C, dx, _, v1, rfl, (off_some hx).2, U.cls, U.n_shape, rfl, S, flg true t, kn, .cons d1 .nil, preOf (okt_flg ok), fun v H' s h => q v H' s ?_⟩)))
  replace h : Dp K (off S H') v (tD (flg false (flg true t))) := h
  rw [flg_flg] at h; exact h
theorem ok_Tree_is_plain (T : Txt K mg a fd C tk) (U : TxC K mg a C) : FnOk P w K mg base CX0 1 (a 15) (fd 15) ["self"] (spM0 K C fun t => .bool (decide ((lv t).length = (mem t).length))) := by
  refine T.F_Tree_is_plain.ok sc_Tree_is_plain (fun vs H Q E h => spM_len (fun _ => rfl) h) (fun cdv A outer s H vs Q E hr h => ?_)
  obtain ⟨S, t, x, y, us, rfl, kn, ⟨dx, v1, v2, v3, hx, d1, d2, d3⟩, ok, ⟨⟩, -, q⟩ := h
  refine ⟨_, (pss_one (ps_ret (pe_cmpR op_eq (pe_callB (k_len (K := K)) (by rfl) T.z_len (by decide +kernel) (pa_cons (k_fld (K := K) (pv 0) rfl) pa_nil)) (pe_callB (k_len (K := K)) (by rfl) T.z_len (by decide +kernel) (pa_cons (k_fld (K := K) (pv 0) rfl) pa_nil)) (nomark _)))), ?_⟩
  refine s_ret (t_op (t_cb1 (t_fld (t_var rfl ⟨x, C, dx, _, v2, rfl, (off_some hx).2, U.cls, U.n_leaves, rfl, len_d off_sub d2 rfl ?_⟩))))
  refine t_cb1 (t_fld (t_var rfl ⟨x, C, dx, _, v3, rfl, (off_some hx).2, U.cls, U.n_members, rfl, len_d off_sub d3 rfl ?_⟩))
  refine ⟨rfl, q _ _ (Same.refl _) (dp_bl ?_)⟩
  rw [List.length_map, List.length_map]
  exact decide_eq_decide.mpr ⟨fun h => by have := V.int.inj h; omega, fun h => by rw [h]⟩
theorem ok_Tree_members (T : Txt K mg a fd C tk) (U : TxC K mg a C) : FnOk P w K mg base CX0 1 (a 16) (fd 16) ["self"] (spM0 K C fun t => nL (mem t)) := by
  refine T.F_Tree_members.ok sc_Tree_members (fun vs H Q E h => spM_len (fun _ => rfl) h) (fun cdv A outer s H vs Q E hr h => ?_)
  obtain ⟨S, t, x, y, us, rfl, kn, ⟨dx, v1, v2, v3, hx, d1, d2, d3⟩, ok, ⟨⟩, -, q⟩ := h
  refine ⟨_, (pss_one (ps_ret (pe_callTy (k_list (K := K)) (by rfl) T.z_list (by decide +kernel) (pa_cons (k_fld (K := K) (pv 0) rfl) pa_nil)))), ?_⟩
  refine s_ret (t_cb1 (t_fld (t_var rfl ⟨x, C, dx, _, v3, rfl, (off_some hx).2, U.cls, U.n_members, rfl, list_d kn d3 rfl fun l xs hl ha h => q _ _ (same_new hl) h⟩)))
def encS (x : Bool × List Nat) : List PyData := [sq x.1 (x.2.map nD)]
theorem ok_Tree_stands (T : Txt K mg a fd C tk) (U : TxC K mg a C) : FnOk P w K mg base CX0 8 (a 17) (fd 17) ["self", "houses"] (spM K C encS (fun t x => (∀ n ∈ x.2, n < 24 ∧ n ∈ mem t) ∧ x.2.Nodup ∧ x.2.length ≤ 1000) fun t x => .bool (st x.2 t)) := by
  have G_are_houses : FnOk P w K mg base CX0 4 (a 12) (fd 12) ["members", "value"] (spAreHouses K) := ok_are_houses T
  have G_stands_in := ok_stands_in (P := P) (w := w) (base := base) T 6
  refine T.F_Tree_stands.ok sc_Tree_stands (fun vs H Q E h => spM_len (n := 1) (fun _ => rfl) h) (fun cdv A outer s H vs Q E hr h => ?_)
  obtain ⟨S, t, x, ⟨c, ns⟩, us, rfl, kn, ⟨dx, v1, v2, v3, hx, d1, d2, d3⟩, ok, hd, pre, q⟩ := h
  obtain - | ⟨hd, ⟨⟩⟩ := hd
  rename_i v
  replace hx := (off_some hx).2
  refine ⟨_, (pss_cons (ps_if (pt_not (pt_val (pe_call G_are_houses (hr.mono (by omega)) (by rfl) T.m_are_houses T.F_are_houses.kp T.b_are_houses .nil pass0 (pa_cons (k_fld (K := K) (pv 0) rfl) (pa_cons (pv 1) pa_nil)))))
        (pss_one ps_never) pss_nil)
      (pss_one (ps_ret (pe_call G_stands_in (hr.mono (by omega)) (by rfl) T.m_stands_in T.F_stands_in.kp T.b_stands_in .nil pass0 (pa_cons (k_fld (K := K) (pv 0) rfl) (pa_cons (pv 1) pa_nil)))))), ?_⟩
  refine s_seq (s_if (b_not (b_val (t_call2 (t_fld (t_var rfl ⟨x, C, dx, _, v3, rfl, hx, U.cls, U.n_members, rfl, ?_⟩))))))
  refine t_var rfl (spP_bl off_sub (mem t, c, ns) (.cons d3 (.cons hd .nil)) pre rfl fun H1 s1 => ⟨_, rfl, ifF rfl (s_next ?_)⟩)
  refine s_ret (t_call2 (t_fld (t_var rfl ⟨x, C, dx, _, v1, rfl, s1 _ _ hx, U.cls, U.n_shape, rfl, ?_⟩)))
  refine t_var rfl (spP_bl (off_sub.trans s1) (flg true t, c, ns) (.cons d1 (.cons hd .nil)) (preOf (okt_flg ok)) rfl fun H2 s2 => q _ _ (s1.trans s2) (dp_bl ?_))
  exact st_flg true ns t
end
end K31

set_option maxRecDepth 100000
set_option maxHeartbeats 1000000
/-! x != y where the class has its own == and no own != -/
namespace PySem.W
open PySem PySem.Calls PyProof.Rows Builtin
section
variable {prog : Program} {w : World} {A : Around} {E : Value → Shared → Prop} {s : Shared} {K : Frag} {x C L f : Addr} {h₀ : Heap} {m : Str → Option Value} {ox : Obj} {od : Option Obj} {b tb : Value}
theorem kh_ifBoundB {M : Model} {name : Str} {id : String} {args : List Value} {Q : Option Value → Shared → Prop} (X : K.In s.heap) (I : InstAt s.heap x ox C od) (hs : findIn K (.ref C) name = some (some (.builtin id))) (hb : ∀ self, bindSpecial (.builtin id) self = pure (.builtin id, [self]))
    (h : wpAny M A (call (.builtin id) (.ref x :: args)) (fun v => Q (some v)) E s) : wpAny M A (callSpecialIfBound? (.ref x) name args) Q E s := by
  simp only [callSpecialIfBound?, bindSpecialIfBound?]
  refine wpAny_holding (wpAny_bind (wpAny_bind (wpAny_bind (I.type.here ((looks_findIn X hs).here ?_)))))
  simp only [hb]
  refine wpAny_bind (wpAny_askSetting (wpAny_ite ?_))
  have fin : wpAny M A (call (.builtin id) ([.ref x] ++ args) >>= fun v => pure (some v)) Q E s := wpAny_bind (wpAny_mono h (fun v s' h' => wpAny_pure h') fun _ _ h' => h')
  split
  · exact wpAny_bind (wpAny_pure (wpAny_pure fin))
  · exact wpAny_tryCatch (wpAny_bind (wpAny_pure (wpAny_pure fin)))
theorem kh_check {M : Model} {id owner n : String} {rest : List Value} {Q : Unit → Shared → Prop} (X : K.In s.heap) (I : InstAt s.heap x ox C od) (ho : subIn K (.ref C) (.type owner) = some true) (hk : builtinKind id = some .slot) (hs : splitId id = some (owner, n))
    (ha : argsOk id ⟨.ref x :: rest, []⟩) (hq : Q () s) : wpAny M A (checkBuiltinCall id ⟨.ref x :: rest, []⟩) Q E s := by
  simp only [checkBuiltinCall, hk, hs]
  have S : Looks M s.heap (isInstance (.ref x) (.type owner)) true := (I.type).andThen (looks_subIn X ho)
  refine wpAny_bind (S.here ?_)
  simp only [Bool.not_true, Bool.false_eq_true, if_false]
  cases hsig : Manifest.signature? id with
  | none => first | exact wpAny_pure hq | exact wpAny_bind (wpAny_pure hq)
  | some sig =>
    simp only [argsOk, hsig] at ha
    have h2 : Bind.checkArgs id sig ⟨.ref x :: rest, []⟩ = pure () := ha
    show wpAny M A (Bind.checkArgs id sig ⟨.ref x :: rest, []⟩) Q E _
    rw [h2]; exact wpAny_pure hq
theorem kh_ne {Q : Value → Shared → Prop} (hu : A.units < cLine) (hu1 : A.in1.units < cLine) (F0 : Fr h₀ L s.heap m) (X₀ : K.In h₀) (I : InstAt s.heap x ox C od) (hb : Looks (model prog w) s.heap (typeOf b) tb) (hn : notFirst K C tb = true)
    (hne : findIn K (.ref C) "__ne__" = some (some (.builtin "object.__ne__"))) (ho : subIn K (.ref C) (.type "object") = some true)
    (hs : findIn K (.ref C) "__eq__" = some (some (.ref f))) (hf : isFn K (.ref f) = true)
    (h : wpAny (model prog w) A.in1 (call (.ref f) [.ref x, b]) (fun v s' => ∃ r, v = .bool r ∧ Q (.bool (!r)) s') E s) : wpAny (model prog w) A (richCompare .NotEq (.ref x) b) Q E s := by
  have X := X₀.keeps F0.keep
  have one : wpAny (model prog w) A (tryCompare (.ref x) "__ne__" b) (fun r s' => ∃ v, r = some v ∧ Q v s') E s := by
    unfold tryCompare
    refine wpAny_bind (kh_ifBoundB X I hne F.cmp_object.ne.bind (wpAny_call (codeAny_call_builtin F.cmp_object.ne.plain F.cmpEntry_ne (kh_check X I ho F.cmpKind_ne F.cmpSplit_ne (F.cmpArgs_ne _ _) ?_))))
    unfold Builtin.«object.__ne__»
    repeat (first
      | with_reducible refine wpAny_cRoomFor hu1 ?_
      | (refine wpAny_bind (m := callSpecialIfBound? (.ref x) (Str.ofString "__eq__") [b]) (ifBound_K X I hs hf (wpAny_mono h (fun r s' hr => ?_) fun _ _ e => e)))
      | wp_step)
    obtain ⟨r, rfl, hq⟩ := hr
    repeat (first | exact hq | exact wpAny_pure hq | exact wpAny_truthy_bool hq | (refine wpAny_bind (m := truthy (.bool _)) (wpAny_truthy_bool ?_)) | wp_step)
    all_goals first | exact ⟨_, rfl, hq⟩ | exact wpAny_pure ⟨_, rfl, hq⟩ | skip
  unfold richCompare
  simp only [oneThing_ref]
  refine wpAny_holding (wpAny_bind (wpAny_cRoomFor hu ?_))
  refine wpAny_bind (I.type.here (wpAny_bind (hb.here ?_)))
  rw [cmpInfo_NotEq]
  dsimp only
  split
  · rename_i q
    have e : subIn K tb (.ref C) = some false := by
      rcases Bool.or_eq_true_iff.mp hn with e | e
      · rw [beq_iff_eq.mp e] at q; simp at q
      · exact beq_iff_eq.mp e
    refine wpAny_bind ((looks_subIn X e).here ?_)
    simp only [Bool.false_eq_true, if_false]
    refine wpAny_bind (wpAny_mono one (fun r s' z => ?_) fun _ _ e => e)
    obtain ⟨v, rfl, hq⟩ := z
    exact wpAny_pure hq
  · refine wpAny_bind (wpAny_pure ?_)
    simp only [Bool.false_eq_true, if_false]
    refine wpAny_bind (wpAny_mono one (fun r s' z => ?_) fun _ _ e => e)
    obtain ⟨v, rfl, hq⟩ := z
    exact wpAny_pure hq
end
end PySem.W

set_option maxRecDepth 100000
set_option maxHeartbeats 2000000
/-! own operators of a class; defs whose promise wants that no repr is under way -/
namespace Kh
open PySem PySem.Spec PyProof.Rows L2
/-- a def's promise, where no repr is under way -/
structure FnG (P : Program) (w : World) (K : PySem.W.Frag) (mg : Str → Option Value) (base : Heap) (k : Nat) (f : Addr) (fd : FuncData) (ps : List Str) (sp : Sp) : Prop where
  len : ∀ vs H Q E, sp vs H Q E → vs.length = ps.length
  run : ∀ (A : Around) (outer : List Env) (s : Shared) (H : Hp) (args : Args) (us : List Value) (vs : List V) (Q : VK) (E : XK), A.guards = some [] → Room k A → Env0 P w K mg base A outer s H → BindsTo s fd args (ps.zip us) → Vals vs us → sp vs H Q E →
    codeAny (model P w) A (.call (.ref f) args) (CR CX0 outer P w H s Q E) s
section
variable {P : Program} {w : World} {K : PySem.W.Frag} {mg : Str → Option Value} {base : Heap}
theorem FnG.of {k : Nat} {f : Addr} {fd : FuncData} {ps : List Str} {sp : Sp} (F : FnOk P w K mg base CX0 k f fd ps sp) : FnG P w K mg base k f fd ps sp := ⟨F.len, fun A outer s H args us vs Q E _ => F.run A outer s H args us vs Q E⟩
theorem FnG.mono {j k : Nat} {f : Addr} {fd : FuncData} {ps : List Str} {sp : Sp} (F : FnG P w K mg base j f fd ps sp) (h : j ≤ k) : FnG P w K mg base k f fd ps sp := ⟨F.len, fun A outer s H args us vs Q E hg hr => F.run A outer s H args us vs Q E hg (hr.mono h)⟩
/-- the rule for a def, as Fun.ok -/
theorem fun_okG {x qual : Str} {st : Stmt} {f : Addr} {fd : FuncData} {N ps : List Str} {k : Nat} {sp : Sp} (F : Fun K x qual st f fd) (S : FnScope N ps (defScope st)) (len : ∀ vs H Q E, sp vs H Q E → vs.length = ps.length)
    (hbody : ∀ (cdv : Value) (A : Around) (outer : List Env) (s : Shared) (H : Hp) (vs : List V) (Q : VK) (E : XK), (A.deeper (envOfC qual (defScope st) s.heap.objs.size f cdv)).guards = some [] → Room k (A.deeper (envOfC qual (defScope st) s.heap.objs.size f cdv)) → sp vs H Q E →
      ∃ t, PSs (cxOf CX0 P w K mg base N qual (defScope st) f cdv A outer s H E).nox (defBody st) t ∧ t { nx := fun _ H' => Q .non H', rt := Q } (start N vs) H) : FnG P w K mg base (k + 1) f fd ps sp := by
  obtain ⟨oc, od, kV, doc, pm, an, cdv, ct, osl, rfl, lk, hcd⟩ := F.ex
  refine ⟨len, fun A outer s H args us vs Q E hg hr z0 hb r hsp => ?_⟩
  have hlen := len _ _ _ _ hsp
  have KI : K.In s.heap := z0.mod.kin.keeps fun b o e => (z0.bs b o e).1
  have noL : s.heap.NoLimit := z0.mod.nolimit.keeps fun b o e => (z0.bs b o e).1
  have kinds : ∀ y ∈ ps.zip us, (defScope st).names.lookup y.1 = some .local ∨ ((defScope st).names.lookup y.1 = some .cell ∧ ((cellsFrom (s.heap.objs.size + 1) (defScope st).names []).lookup y.1).isSome = true) := by
    rintro ⟨n, v⟩ hy
    rcases S.par n (List.of_mem_zip hy).1 with c | c
    · exact Or.inl c
    · exact Or.inr ⟨c, PySem.W.cellsFrom_some _ _ _ (Or.inl c)⟩
  refine codeAny_call_function hr.depth (KI _ _ lk) rfl S.co S.gen rfl (PySem.W.codeRec_of KI hcd) (hb _ _ _ _ ?_)
  refine wpAny_newFunctionEnv_cells S.kind kinds fun env ev s1 xc => ?_
  subst ev
  refine ⟨noL.keeps xc.toInCall.keep, codeAny_func ?_⟩
  obtain ⟨t, ht, hq⟩ := hbody cdv A outer s H vs Q E hg (hr.deeper _) hsp
  have start0 : Inv (cxOf CX0 P w K mg base N qual (defScope st) f cdv A outer s H E) [] (start N vs) H s1 := inv_start S hr.hd z0 hlen r xc
  refine wpAny_mono (ht.nox.run [] s1 (start N vs) H _ start0 hq) (fun fl s' hs => ?_) fun e s' hs => hs
  have ended : ∀ {ρ : L2.St} {H2 : Hp} {v : V} {u : Value}, Inv (cxOf CX0 P w K mg base N qual (defScope st) f cdv A outer s H E) [] ρ H2 s' → RelV v u → Q v H2 → CE outer P w H s Q u s' :=
    fun {ρ H2 v u} J rv q => ⟨v, H2, J.os, J.bare, J.base, J.hok, rv, q⟩
  cases fl with
  | ret u =>
    obtain ⟨v, ρ, H2, J, rv, q⟩ := hs
    exact ended J rv q
  | next =>
    obtain ⟨ρ, H2, J, q⟩ := hs
    exact ended (v := V.non) (u := Value.none) J rfl q
  | brk => obtain ⟨_, _, _, q⟩ := hs; exact q.elim
  | cont => obtain ⟨_, _, _, q⟩ := hs; exact q.elim
end
/-- the callee can be run from this body, at every state below it -/
def Runs (X : Cx) (k : Nat) (f : Addr) (sp : Sp) : Prop := ∀ (A : Around) (pins : List (Addr × Obj)) (σ : L2.St) (H : Hp) (s : Shared) (us : List Value) (vs : List V) (Q : VK) (E' : Value → Shared → Prop), A.frames = X.A.frames → A.guards = X.A.guards → Room k A →
  Inv X pins σ H s → Vals vs us → sp vs H Q E0 → wpAny (model X.prog X.w) A (call (.ref f) us) (EP X pins σ Q) E' s
section
variable {X : Cx} {k : Nat} {f : Addr} {fd : FuncData} {ps : List Str} {sp : Sp}
theorem runsG (F : FnG X.prog X.w X.K X.mg X.base k f fd ps sp) (hg : X.A.guards = some []) (hb : Binds X.K fd ps []) : Runs X k f sp := by
  intro A pins σ H s us vs Q E' fr gd hr I r h
  have hl : us.length = ps.length := by rw [← r.length]; exact F.len _ _ _ _ h
  have e0 : Env0 X.prog X.w X.K X.mg X.base A X.stack s H := by
    have e := I.env0
    exact ⟨by rw [fr]; exact e.frames, e.mod, e.bs, e.bsz, e.funs, e.frf, e.hok, e.bare⟩
  refine wpAny_call (codeAny_mono (F.run A X.stack s H ⟨us, []⟩ us vs Q E0 (gd.trans hg) hr e0 (by simpa using hb s us I.kIn (by simpa using hl)) r h) fun r s' hq => ?_)
  cases r with
  | error e => exact (show False from hq).elim
  | ok fl =>
    cases fl with
    | ret w => exact I.after hq
    | next => exact (show False from hq).elim
    | brk => exact (show False from hq).elim
    | cont => exact (show False from hq).elim
theorem runsOk (F : FnOk X.prog X.w X.K X.mg X.base CX0 k f fd ps sp) (hb : Binds X.K fd ps []) : Runs X k f sp := by
  intro A pins σ H s us vs Q E' fr gd hr I r h
  have hl : us.length = ps.length := by rw [← r.length]; exact F.len _ _ _ _ h
  have e0 : Env0 X.prog X.w X.K X.mg X.base A X.stack s H := by
    have e := I.env0
    exact ⟨by rw [fr]; exact e.frames, e.mod, e.bs, e.bsz, e.funs, e.frf, e.hok, e.bare⟩
  refine wpAny_call (codeAny_mono (F.run A X.stack s H ⟨us, []⟩ us vs Q E0 hr e0 (by simpa using hb s us I.kIn (by simpa using hl)) r h) fun r s' hq => ?_)
  cases r with
  | error e => exact (show False from hq).elim
  | ok fl =>
    cases fl with
    | ret w => exact I.after hq
    | next => exact (show False from hq).elim
    | brk => exact (show False from hq).elim
    | cont => exact (show False from hq).elim
theorem Runs.imp {sp' : Sp} (R : Runs X k f sp) (h : ∀ vs H Q, sp' vs H Q E0 → sp vs H Q E0) : Runs X k f sp' := fun A pins σ H s us vs Q E' fr gd hr I r q => R A pins σ H s us vs Q E' fr gd hr I r (h _ _ _ q)
/-- f(..) of such a def -/
theorem pe_callG {p pos : Pos} {x : Str} {e : Expr} {es : List Expr} {t : TA} (R : Runs X k f sp) (hr : Room k X.A) (hg : Gl X x) (hm : X.mg x = some (.ref f)) (hk : PySem.W.keepIn X.K (.ref f) = true) (ha : PA X (e :: es) t)
    (hdb : (x == ("__debug__" : Str)) = false := by decide) (he : starEach (e :: es) X.env = (false, eval e X.env) :: starEach es X.env := by rfl) (hpl : (backTo pos (starEach es X.env)).any (·.1) = false := by rfl) :
    PE X (.Call (.Name x p) (e :: es) [] pos) (tCall sp [] E0 t) := by
  refine ⟨fun pins s σ H Q I h => ?_⟩
  have h' : t σ H fun vs H1 => sp vs H1 Q E0 := by
    have e : (fun (vs : List V) (H1 : Hp) => sp (vs ++ []) H1 Q E0) = fun vs H1 => sp vs H1 Q E0 := by funext vs H1; rw [List.append_nil]
    rw [← e]; exact h
  refine wpAny_Call_Name_kw (ld_glob I hg hm ?_ hdb)
  refine PySem.W.callWith_K (h₀ := X.base) I.ok.mod.kin hk (thn (ha.run pos pins s σ H _ I h') fun us s1 ⟨vs, H1, I1, r, q⟩ => ⟨I1.kIn, ?_⟩) he hpl
  exact R X.A pins σ H1 s1 us vs Q X.xe rfl rfl hr I1 r q
/-! own operators -/
def isI (H : Hp) (C : Addr) (x : V) : Prop := ∃ a dx fs, x = .ref a ∧ H a = some (.ins C dx fs)
def rLenI (C : Addr) (sp : Sp) : List V → Hp → VK → Prop := fun xs H Q => ∃ x, xs = [x] ∧ isI H C x ∧ sp [x] H (fun v H' => ∃ n : Nat, v = .int n ∧ n < 2 ^ 62 ∧ Q (.int n) H') E0
theorem call_lenI {C : Addr} (R : Runs X k f sp) (hr : Room (k + 1) X.A) (M : Meth X.K C "__len__" f) : CallR X (.builtin "len") (rLenI C sp) := by
  intro pins s σ H xs us Q I r h
  obtain ⟨_, rfl, ⟨a, dx, fs, rfl, ha⟩, hs⟩ := h
  obtain ⟨u, rfl, ru⟩ := r.one
  cases ru
  obtain ⟨mA, J, _⟩ := ins_get I.hok ha
  obtain ⟨od, J, _⟩ := J.look
  obtain ⟨m, hF⟩ := I.fr
  refine PySem.W.len_K hF I.ok.mod.kin J M.at_ M.fn (wpAny_mono (R X.A.in1 pins σ H s [.ref a] [.ref a] _ X.xe rfl rfl hr.in1 I (.cons rfl .nil) hs) (fun r s' q => ?_) fun _ _ z => z)
  obtain ⟨v, H', I', rv, n, rfl, hn, q⟩ := q
  obtain ⟨tk, rfl⟩ := rv
  exact ⟨⟨by omega, by omega⟩, .int n, H', I'.tok _, ⟨_, rfl⟩, q⟩
def rInI (C : Addr) (sp : Sp) : R2 := fun x y H Q => isI H C y ∧ sp [y, x] H (fun v H' => ∃ b, v = .bl b ∧ Q (.bl b) H') E0
theorem op_inI {C : Addr} (R : Runs X k f sp) (hr : Room k X.A) (M : Meth X.K C "__contains__" f) : OpR X (compareOp .In) (rInI C sp) := by
  intro pins s σ H x y v u Q I rx ry h
  obtain ⟨⟨a, dx, fs, rfl, ha⟩, hs⟩ := h
  cases ry
  obtain ⟨mA, J, _⟩ := ins_get I.hok ha
  obtain ⟨od, J, _⟩ := J.look
  obtain ⟨m, hF⟩ := I.fr
  refine PySem.W.in_K hF I.ok.mod.kin J M.at_ M.fn (wpAny_mono (R X.A pins σ H s [.ref a, v] [.ref a, x] _ X.xe rfl rfl hr I (.cons rfl (.cons rx .nil)) hs) (fun r s' q => ?_) fun _ _ z => z)
  obtain ⟨z, H', I', rv, b, rfl, q⟩ := q
  cases rv
  exact wpAny_truthy_bool ⟨.bl b, H', I', rfl, q⟩
def rUnI (C : Addr) (sp : Sp) : V → Hp → VK → Prop := fun x H Q => isI H C x ∧ sp [x] H Q E0
theorem un_invI {C : Addr} (R : Runs X k f sp) (hr : Room k X.A) (M : Meth X.K C "__invert__" f) : UnR X (unaryOp .Invert) (rUnI C sp) := by
  intro pins s σ H x v Q I rx h
  obtain ⟨⟨a, dx, fs, rfl, ha⟩, hs⟩ := h
  cases rx
  obtain ⟨mA, J, _⟩ := ins_get I.hok ha
  obtain ⟨od, J, _⟩ := J.look
  obtain ⟨m, hF⟩ := I.fr
  exact PySem.W.ksp_inv hF I.ok.mod.kin J M.at_ M.fn (R X.A pins σ H s [.ref a] [.ref a] _ X.xe rfl rfl hr I (.cons rfl .nil) hs)
def notNI : V → Prop := fun _ => True
/-- an operator of two objects of the class -/
def rBinI (C : Addr) (sp : Sp) : R2 := fun x y H Q => isI H C x ∧ isI H C y ∧ sp [x, y] H Q E0
theorem back_of {Q : VK} {pins : List (Addr × Obj)} {σ : L2.St} {v : Value} {s' : Shared} (h : EP X pins σ Q v s') : PySem.W.CmpBack (EP X pins σ Q) v s' := by
  cases v <;> first | exact h | skip
  obtain ⟨v, H', I', rv, q⟩ := h
  cases v <;> first | (cases rv; done) | (obtain ⟨_, rv⟩ := rv; cases rv; done) | (exact (nomatch rv))
theorem op_binI {C : Addr} {op : Operator} (R : Runs X k f sp) (hr : Room k X.A) (hc : PySem.W.selfFirst X.K C = true) (M : Meth X.K C (PySem.dunder op.info.2) f) : OpR X (binaryOp op) (rBinI C sp) := by
  intro pins s σ H x y v u Q I rx ry h
  obtain ⟨⟨a, dx, fs, rfl, ha⟩, ⟨b, dy, gs, rfl, hb⟩, hs⟩ := h
  cases rx
  cases ry
  obtain ⟨mA, J, _⟩ := ins_get I.hok ha
  obtain ⟨od, J, _⟩ := J.look
  obtain ⟨mB, J2, _⟩ := ins_get I.hok hb
  obtain ⟨od2, J2, _⟩ := J2.look
  obtain ⟨m, hF⟩ := I.fr
  exact PySem.W.binop_K hF I.ok.mod.kin J J2.type hc M.at_ M.fn (wpAny_mono (R X.A pins σ H s [.ref a, .ref b] [.ref a, .ref b] _ X.xe rfl rfl hr I (.cons rfl (.cons rfl .nil)) hs) (fun r s' q => back_of q) fun _ _ z => z)
/-- an own ==: the other one of any type that is told -/
def tyOk (K : PySem.W.Frag) (H : Hp) (C : Addr) (y : V) : Prop := isI H C y ∨ (∃ n, TyX K H y (.type n) ∧ PySem.W.notFirst K C (.type n) = true)
theorem looks_ty {C : Addr} {pins : List (Addr × Obj)} {σ : L2.St} {H : Hp} {s : Shared} {y : V} {u : Value} (I : Inv X pins σ H s) (ry : RelV y u) (h : tyOk X.K H C y) : ∃ tb, PySem.W.Looks (model X.prog X.w) s.heap (typeOf u) tb ∧ PySem.W.notFirst X.K C tb = true := by
  rcases h with ⟨b, dy, gs, rfl, hb⟩ | ⟨n, ty, hn⟩
  · cases ry
    obtain ⟨mB, J2, _⟩ := ins_get I.hok hb
    obtain ⟨od2, J2, _⟩ := J2.look
    exact ⟨.ref C, J2.type, by simp [PySem.W.notFirst]⟩
  · obtain ⟨P, Z, p, _⟩ := kit_of I ry ty
    exact ⟨.type n, Z.ty _ _ I.kIn p, hn⟩
def rEqI (C : Addr) (K : PySem.W.Frag) (sp : Sp) : R2 := fun x y H Q => isI H C x ∧ tyOk K H C y ∧ sp [x, y] H Q E0
theorem op_eqI {C : Addr} (R : Runs X k f sp) (hr : Room k X.A) (M : Meth X.K C "__eq__" f) : OpR X (compareOp .Eq) (rEqI C X.K sp) := by
  intro pins s σ H x y v u Q I rx ry h
  obtain ⟨⟨a, dx, fs, rfl, ha⟩, ty, hs⟩ := h
  cases rx
  obtain ⟨mA, J, _⟩ := ins_get I.hok ha
  obtain ⟨od, J, _⟩ := J.look
  obtain ⟨m, hF⟩ := I.fr
  obtain ⟨tb, hb, hn⟩ := looks_ty I ry ty
  exact PySem.W.cmp_K (op := .Eq) hr.units0 hF I.ok.mod.kin J hb hn M.at_ M.fn (wpAny_mono (R X.A pins σ H s [.ref a, u] [.ref a, y] _ X.xe rfl rfl hr I (.cons rfl (.cons ry .nil)) hs) (fun r s' q => back_of q) fun _ _ z => z)
def rNeI (C : Addr) (K : PySem.W.Frag) (sp : Sp) : R2 := fun x y H Q => isI H C x ∧ tyOk K H C y ∧ sp [x, y] H (fun v H' => ∃ b, v = .bl b ∧ Q (.bl (!b)) H') E0
theorem op_neI {C : Addr} (R : Runs X k f sp) (hr : Room (k + 1) X.A) (M : Meth X.K C "__eq__" f) (hne : PySem.W.findIn X.K (.ref C) "__ne__" = some (some (.builtin "object.__ne__"))) (ho : PySem.W.subIn X.K (.ref C) (.type "object") = some true) :
    OpR X (compareOp .NotEq) (rNeI C X.K sp) := by
  intro pins s σ H x y v u Q I rx ry h
  obtain ⟨⟨a, dx, fs, rfl, ha⟩, ty, hs⟩ := h
  cases rx
  obtain ⟨mA, J, _⟩ := ins_get I.hok ha
  obtain ⟨od, J, _⟩ := J.look
  obtain ⟨m, hF⟩ := I.fr
  obtain ⟨tb, hb, hn⟩ := looks_ty I ry ty
  refine PySem.W.kh_ne hr.units0 hr.in1.units0 hF I.ok.mod.kin J hb hn hne ho M.at_ M.fn (wpAny_mono (R X.A.in1 pins σ H s [.ref a, u] [.ref a, y] _ X.xe rfl rfl hr.in1 I (.cons rfl (.cons ry .nil)) hs) (fun r s' q => ?_) fun _ _ z => z)
  obtain ⟨z, H', I', rv, b, rfl, q⟩ := q
  cases rv
  exact ⟨b, rfl, .bl (!b), H', I', rfl, q⟩
def rReprI (C : Addr) (sp : Sp) : List V → Hp → VK → Prop := fun xs H Q => ∃ x, xs = [x] ∧ isI H C x ∧ sp [x] H (fun v H' => ∃ y, v = .str y ∧ Q (.str y) H') E0
theorem call_reprI {C : Addr} (R : Runs X k f sp) (hr : Room (k + 1) X.A) (M : Meth X.K C "__repr__" f) : CallR X (.builtin "repr") (rReprI C sp) := by
  intro pins s σ H xs us Q I r h
  obtain ⟨_, rfl, ⟨a, dx, fs, rfl, ha⟩, hs⟩ := h
  obtain ⟨u, rfl, ru⟩ := r.one
  cases ru
  obtain ⟨mA, J, _⟩ := ins_get I.hok ha
  obtain ⟨od, J, _⟩ := J.look
  obtain ⟨m, hF⟩ := I.fr
  refine PySem.W.repr_K hr.in1.units0 hF I.ok.mod.kin J M.at_ M.fn (wpAny_mono (R X.A.in1 pins σ H s [.ref a] [.ref a] _ X.xe rfl rfl hr.in1 I (.cons rfl .nil) hs) (fun r s' q => ?_) fun _ _ z => z)
  obtain ⟨v, H', I', rv, n, rfl, q⟩ := q
  obtain ⟨tk, rfl⟩ := rv
  exact ⟨.str n, H', I', ⟨_, rfl⟩, q⟩
end
end Kh

set_option maxRecDepth 100000
set_option maxHeartbeats 2000000
/-! data that can be told and compared -/
namespace Kh
open PySem PySem.Spec PyProof.Rows L2
/-- short, not deep, no dict -/
structure Nice (n m : Nat) (d : PyData) : Prop where
  sh : d.leavesShort 8 = true
  wt : d.weight ≤ n
  dp : d.depth ≤ m
  sw : d.showable = true
  nd : d.hasDict = false
  cl : d.canLay0 = true
structure NiceA (n m : Nat) (ds : List PyData) : Prop where
  sh : PyData.leavesShortAll 8 ds = true
  wt : PyData.weightAll ds ≤ n
  dp : PyData.depthAll ds ≤ m
  sw : PyData.showableAll ds = true
  nd : PyData.hasDictAll ds = false
  cl : PyData.canLayAll0 ds = true
theorem Nice.mono {n m n' m' : Nat} {d : PyData} (h : Nice n m d) (hn : n ≤ n') (hm : m ≤ m') : Nice n' m' d := ⟨h.sh, Nat.le_trans h.wt hn, Nat.le_trans h.dp hm, h.sw, h.nd, h.cl⟩
theorem NiceA.mono {n m n' m' : Nat} {d : List PyData} (h : NiceA n m d) (hn : n ≤ n') (hm : m ≤ m') : NiceA n' m' d := ⟨h.sh, Nat.le_trans h.wt hn, Nat.le_trans h.dp hm, h.sw, h.nd, h.cl⟩
theorem nice_none : Nice 0 0 .none := ⟨by simp [PyData.leavesShort], by simp [PyData.weight], by simp [PyData.depth], by simp [PyData.showable], by simp [PyData.hasDict], by simp [PyData.canLay0]⟩
theorem nice_bool (b : Bool) : Nice 0 0 (.bool b) := ⟨by simp [PyData.leavesShort], by simp [PyData.weight], by simp [PyData.depth], by simp [PyData.showable], by simp [PyData.hasDict], by simp [PyData.canLay0]⟩
def smallI (n : Nat) : Bool := decide ((PyData.shown (.int (n : Nat))).length ≤ 8) && (PyData.shown (.int (n : Nat))).cps.toList.all (fun c => decide (c < 1114112)) && decide (((n : Nat) : Int).natAbs.log2 < 100)
theorem small_all : ((List.range 256).all smallI) = true := by decide +kernel
theorem small_one {n : Nat} (h : n < 256) : smallI n = true := (List.all_eq_true.mp small_all) n (List.mem_range.mpr h)
theorem nice_int {n : Nat} (h : n < 256) : Nice 100 0 (.int (n : Nat)) := by
  have q := small_one h
  unfold smallI at q
  obtain ⟨q1, q3⟩ := Bool.and_eq_true_iff.mp q
  obtain ⟨q1, q2⟩ := Bool.and_eq_true_iff.mp q1
  have q3 := of_decide_eq_true q3
  refine ⟨by rw [PyData.leavesShort]; exact q1, ?_, by simp [PyData.depth], ?_, by simp [PyData.hasDict], by simp [PyData.canLay0]⟩
  · rw [PyData.weight]; split <;> omega
  · rw [PyData.showable]; exact decide_eq_true (Nat.lt_of_lt_of_le q3 (by decide))
theorem nice_str {x : Str} {n : Nat} (h1 : ∀ c ∈ x.cps.toList, c < 1114112) (h2 : x.cps.size ≤ n) (h3 : PyData.strOk x = true) : Nice n 0 (.str x) :=
  ⟨by rw [PyData.leavesShort, List.all_eq_true]; exact fun c hc => decide_eq_true (Nat.lt_of_lt_of_le (h1 c hc) (by decide)), by rw [PyData.weight]; exact h2, by simp [PyData.depth], by simp [PyData.showable], by simp [PyData.hasDict], by rw [PyData.canLay0]; exact h3⟩
theorem niceA_nil : NiceA 0 0 [] := ⟨by simp [PyData.leavesShortAll], by simp [PyData.weightAll], by simp [PyData.depthAll], by simp [PyData.showableAll], by simp [PyData.hasDictAll], by simp [PyData.canLayAll0]⟩
theorem niceA_cons {n n' m : Nat} {d : PyData} {ds : List PyData} (h : Nice n m d) (t : NiceA n' m ds) : NiceA (n + 1 + n') m (d :: ds) := by
  refine ⟨?_, ?_, ?_, ?_, ?_, ?_⟩
  · rw [PyData.leavesShortAll, h.sh, t.sh]; rfl
  · rw [PyData.weightAll]; have := h.wt; have := t.wt; omega
  · rw [PyData.depthAll]; exact Nat.max_le.mpr ⟨h.dp, t.dp⟩
  · rw [PyData.showableAll, h.sw, t.sw]; rfl
  · rw [PyData.hasDictAll, h.nd, t.nd]; rfl
  · rw [PyData.canLayAll0, h.cl, t.cl]; rfl
theorem nice_list {n m : Nat} {ds : List PyData} (h : NiceA n m ds) : Nice n (m + 1) (.list ds) :=
  ⟨by rw [PyData.leavesShort]; exact h.sh, by rw [PyData.weight]; exact h.wt, by rw [PyData.depth]; exact Nat.succ_le_succ h.dp, by rw [PyData.showable]; exact h.sw, by rw [PyData.hasDict]; exact h.nd, by rw [PyData.canLay0]; exact h.cl⟩
theorem nice_tup {n m : Nat} {ds : List PyData} (h : NiceA n m ds) : Nice n (m + 1) (.tuple ds) :=
  ⟨by rw [PyData.leavesShort]; exact h.sh, by rw [PyData.weight]; exact h.wt, by rw [PyData.depth]; exact Nat.succ_le_succ h.dp, by rw [PyData.showable]; exact h.sw, by rw [PyData.hasDict]; exact h.nd, by rw [PyData.canLay0]; exact h.cl⟩
theorem nice_sq {n m : Nat} {b : Bool} {ds : List PyData} (h : NiceA n m ds) : Nice n (m + 1) (sq b ds) := by
  cases b with
  | true => exact nice_tup h
  | false => exact nice_list h
theorem niceA_map {α : Type} {f : α → PyData} {g : α → Nat} {m : Nat} : ∀ l : List α, (∀ x ∈ l, Nice (g x) m (f x)) → NiceA ((l.map fun x => g x + 1).sum) m (l.map f)
  | [], _ => niceA_nil.mono (Nat.le_refl _) (Nat.zero_le _)
  | x :: l, h => by
    have h1 := niceA_cons (h x List.mem_cons_self) (niceA_map l fun y hy => h y (List.mem_cons_of_mem _ hy))
    rw [List.map_cons, List.map_cons, List.sum_cons]; exact h1
theorem Nice.fits {n m : Nat} {d : PyData} (h : Nice n m d) (hn : n ≤ 1000000) : d.shown.length ≤ sizeLine := PyData.shown_fits (B := 8) (by decide) (by decide) h.sh (Nat.le_trans h.wt (Nat.le_trans hn (by decide)))
theorem Nice.shaped {n m : Nat} {d : PyData} (h : Nice n m d) (hm : m ≤ 64) : SeqAt.shaped d = true := by
  unfold SeqAt.shaped
  rw [h.cl, decide_eq_true (Nat.le_trans h.dp hm)]; rfl
/-- trees -/
theorem nice_tree : ∀ (t : T) (d : Nat), Wf t → (∀ n ∈ lv t, n < 24) → dep t ≤ d → (lv t).length ≤ 100 → Nice (siz t * 300) (2 * d) (tD t) := by
  intro t
  refine T.ind (P := fun t => ∀ d, Wf t → (∀ n ∈ lv t, n < 24) → dep t ≤ d → (lv t).length ≤ 100 → Nice (siz t * 300) (2 * d) (tD t)) (fun n d wf _ _ _ => ?_) (fun b k ps ih d wf hl dp hlen => ?_) t
  · rw [tD_leaf]
    have : n < 24 := by rw [Wf] at wf; exact wf
    exact (nice_int (by omega)).mono (by rw [siz]; omega) (Nat.zero_le _)
  · cases d with
    | zero => exact absurd dp (dep_gate0 b k ps)
    | succ d =>
      obtain ⟨k1, k2, wfs⟩ := (wf_gate b k ps).mp wf
      have dps := (dep_gate b k ps).mp dp
      rw [lv_gate] at hl hlen
      have lp : ∀ p ∈ ps, ∀ n ∈ lv p, n ∈ ps.flatMap lv := fun p hp n hn => List.mem_flatMap.mpr ⟨p, hp, hn⟩
      have ll : ∀ p ∈ ps, (lv p).length ≤ (ps.flatMap lv).length := fun p hp => by
        obtain ⟨s, t, rfl⟩ := List.append_of_mem hp
        rw [List.flatMap_append, List.flatMap_cons, List.length_append, List.length_append]; omega
      have pos : ∀ t, Wf t → 1 ≤ (lv t).length := T.ind (fun n _ => by rw [lv_leaf]; exact Nat.le_refl _) fun b k ps ih h => by
        obtain ⟨h1, h2, h3⟩ := (wf_gate b k ps).mp h
        cases ps with
        | nil => simp at h2; omega
        | cons p r =>
          rw [lv_gate, List.flatMap_cons, List.length_append]
          have := ih p List.mem_cons_self (h3 p List.mem_cons_self)
          omega
      have len : ∀ qs : List T, (∀ p ∈ qs, p ∈ ps) → qs.length ≤ (qs.flatMap lv).length := by
        intro qs
        induction qs with
        | nil => intro _; exact Nat.zero_le _
        | cons p r ih2 =>
          intro hq
          rw [List.flatMap_cons, List.length_append, List.length_cons]
          have h1 := pos p (wfs p (hq p List.mem_cons_self))
          have h2 := ih2 fun q h => hq q (List.mem_cons_of_mem _ h)
          omega
      have hlen2 := len ps fun p h => h
      have sumE : ∀ qs : List T, (qs.map fun x => siz x * 300 + 1).sum = sizs qs * 300 + qs.length := by
        intro qs
        induction qs with
        | nil => simp [sizs]
        | cons p r ih2 => rw [List.map_cons, List.sum_cons, ih2, sizs, List.length_cons, Nat.add_mul]; omega
      have parts := niceA_map (f := tD) (g := fun p => siz p * 300) (m := 2 * d) ps fun p hp => ih p hp d (wfs p hp) (fun n hn => hl n (lp p hp n hn)) (dps p hp) (Nat.le_trans (ll p hp) hlen)
      rw [sumE] at parts
      rw [tD_gate]
      have h1 := (nice_str (x := "of") (n := 2) (by decide) (by decide) (by decide +kernel)).mono (Nat.le_refl 2) (Nat.zero_le (2 * d + 1))
      have h2 := (nice_int (n := k) (by omega)).mono (Nat.le_refl 100) (Nat.zero_le (2 * d + 1))
      have all := niceA_cons h1 (niceA_cons h2 (niceA_cons (nice_sq (b := b) parts) (niceA_nil.mono (Nat.le_refl 0) (Nat.zero_le (2 * d + 1)))))
      have e : siz (.gate b k ps) = 1 + sizs ps := by rw [siz]
      refine (nice_tup all).mono ?_ (by omega)
      rw [e]; omega
/-! what is told has ordinary signs -/
def okS (x : Str) : Prop := ∀ c ∈ x.cps.toList, c < 1114112
theorem okS_ok {x : Str} (h : okS x) : PyData.strOk x = true := by
  unfold PyData.strOk
  rw [Array.all_eq_true]
  intro i hi
  exact decide_eq_true (h _ (by rw [← Array.getElem_toList hi]; exact List.getElem_mem _))
theorem nice_okS {x : Str} {n : Nat} (h : okS x) (h2 : x.cps.size ≤ n) : Nice n 0 (.str x) := nice_str h h2 (okS_ok h)
theorem okS_app {x y : Str} (h : okS x) (g : okS y) : okS (x ++ y) := fun c hc => by
  rw [show (x ++ y).cps = x.cps ++ y.cps from rfl, Array.toList_append] at hc
  rcases List.mem_append.mp hc with hc | hc
  · exact h c hc
  · exact g c hc
theorem okS_from : ∀ (ts : List Str) (k : Nat) (acc : Str), okS acc → (∀ t ∈ ts, okS t) → okS (textFrom k acc ts)
  | [], _, _, h, _ => h
  | t :: ts, k, acc, h, g => by
    refine okS_from ts (k + 1) _ (okS_app (okS_app h ?_) (g t List.mem_cons_self)) fun u hu => g u (List.mem_cons_of_mem _ hu)
    split
    · show okS ", "; exact (by unfold okS; decide)
    · show okS ""; exact (by unfold okS; decide)
theorem okS_join : ∀ (ts : List Str), (∀ t ∈ ts, okS t) → okS (Str.join ", " ts)
  | [], _ => by unfold okS; decide
  | [x], h => h x List.mem_cons_self
  | x :: y :: r, h => by
    show okS (x ++ (", " : Str) ++ Str.join ", " (y :: r))
    exact okS_app (okS_app (h x List.mem_cons_self) (by unfold okS; decide)) (okS_join (y :: r) fun u hu => h u (List.mem_cons_of_mem _ hu))
theorem okS_list {ts : List Str} (h : ∀ t ∈ ts, okS t) : okS (listText ts) := okS_app (okS_from ts 0 _ (by unfold okS; decide) h) (by unfold okS; decide)
theorem okS_tup {ts : List Str} (h : ∀ t ∈ ts, okS t) : okS (tupleText ts) := by
  unfold tupleText
  refine okS_app (okS_app (by unfold okS; decide) (okS_join ts h)) ?_
  split
  · show okS ",)"; unfold okS; decide
  · show okS ")"; unfold okS; decide
theorem shownAll_mem : ∀ {ds : List PyData} {x : Str}, x ∈ PyData.shownAll ds → ∃ d ∈ ds, x = PyData.shown d
  | [], _, h => by rw [PyData.shownAll] at h; cases h
  | d :: ds, x, h => by
    rw [PyData.shownAll] at h
    rcases List.mem_cons.mp h with rfl | h
    · exact ⟨d, List.mem_cons_self, rfl⟩
    · obtain ⟨e, he, rfl⟩ := shownAll_mem h
      exact ⟨e, List.mem_cons_of_mem _ he, rfl⟩
theorem okS_int {n : Nat} (h : n < 256) : okS (PyData.shown (.int (n : Nat))) := by
  have q := small_one h
  unfold smallI at q
  obtain ⟨q1, q3⟩ := Bool.and_eq_true_iff.mp q
  obtain ⟨q1, q2⟩ := Bool.and_eq_true_iff.mp q1
  exact fun c hc => of_decide_eq_true (List.all_eq_true.mp q2 c hc)
theorem tpos : ∀ t, Wf t → 1 ≤ (lv t).length := T.ind (fun n _ => by rw [lv_leaf]; exact Nat.le_refl _) fun b k ps ih h => by
  obtain ⟨h1, h2, h3⟩ := (wf_gate b k ps).mp h
  cases ps with
  | nil => simp at h2; omega
  | cons p r =>
    rw [lv_gate, List.flatMap_cons, List.length_append]
    have := ih p List.mem_cons_self (h3 p List.mem_cons_self)
    omega
theorem tlen : ∀ ps : List T, (∀ p ∈ ps, Wf p) → ps.length ≤ (ps.flatMap lv).length
  | [], _ => Nat.zero_le _
  | p :: r, h => by
    rw [List.flatMap_cons, List.length_append, List.length_cons]
    have h1 := tpos p (h p List.mem_cons_self)
    have h2 := tlen r fun q hq => h q (List.mem_cons_of_mem _ hq)
    omega
theorem tpart {ps : List T} {p : T} (hp : p ∈ ps) : (lv p).length ≤ (ps.flatMap lv).length := by
  obtain ⟨s, t, rfl⟩ := List.append_of_mem hp
  rw [List.flatMap_append, List.flatMap_cons, List.length_append, List.length_append]; omega
theorem okS_tree : ∀ t : T, Wf t → (lv t).length ≤ 100 → okS (PyData.shown (tD t)) := by
  intro t
  refine T.ind (P := fun t => Wf t → (lv t).length ≤ 100 → okS (PyData.shown (tD t))) (fun n wf _ => ?_) (fun b k ps ih wf hlen => ?_) t
  · rw [tD_leaf]
    have : n < 24 := by rw [Wf] at wf; exact wf
    exact okS_int (by omega)
  · obtain ⟨k1, k2, wfs⟩ := (wf_gate b k ps).mp wf
    rw [lv_gate] at hlen
    have hl := tlen ps wfs
    have parts : ∀ x ∈ PyData.shownAll (ps.map tD), okS x := fun x hx => by
      obtain ⟨d, hd, rfl⟩ := shownAll_mem hx
      obtain ⟨p, hp, rfl⟩ := List.mem_map.mp hd
      exact ih p hp (wfs p hp) (Nat.le_trans (tpart hp) hlen)
    rw [tD_gate, PyData.shown]
    refine okS_tup fun x hx => ?_
    obtain ⟨d, hd, rfl⟩ := shownAll_mem hx
    rcases List.mem_cons.mp hd with rfl | hd
    · rw [PyData.shown]; unfold okS; decide +kernel
    rcases List.mem_cons.mp hd with rfl | hd
    · exact okS_int (by omega)
    rcases List.mem_cons.mp hd with rfl | hd
    · cases b with
      | true => show okS (PyData.shown (.tuple _)); rw [PyData.shown]; exact okS_tup parts
      | false => show okS (PyData.shown (.list _)); rw [PyData.shown]; exact okS_list parts
    · cases hd
/-! equal data of trees -/
theorem eqvAll_refl : ∀ {ds : List PyData}, (∀ d ∈ ds, PyData.eqv d d = true) → PyData.eqvAll ds ds = true
  | [], _ => by rw [PyData.eqvAll]
  | d :: ds, h => by rw [PyData.eqvAll, h d List.mem_cons_self, eqvAll_refl fun e he => h e (List.mem_cons_of_mem _ he)]; rfl
theorem eqv_int (i : Int) : PyData.eqv (.int i) (.int i) = true := by rw [PyData.eqv]; exact beq_self_eq_true i
theorem eqv_str (x : Str) : PyData.eqv (.str x) (.str x) = true := by rw [PyData.eqv]; exact beq_self_eq_true x
theorem eqv_bool (b : Bool) : PyData.eqv (.bool b) (.bool b) = true := by rw [PyData.eqv]; exact beq_self_eq_true b
theorem eqv_list {ds : List PyData} (h : ∀ d ∈ ds, PyData.eqv d d = true) : PyData.eqv (.list ds) (.list ds) = true := by rw [PyData.eqv]; exact eqvAll_refl h
theorem eqv_tup {ds : List PyData} (h : ∀ d ∈ ds, PyData.eqv d d = true) : PyData.eqv (.tuple ds) (.tuple ds) = true := by rw [PyData.eqv]; exact eqvAll_refl h
theorem eqv_tree : ∀ t : T, PyData.eqv (tD t) (tD t) = true := T.ind (fun n => by rw [tD_leaf]; exact eqv_int _) fun b k ps ih => by
  have parts : ∀ d ∈ ps.map tD, PyData.eqv d d = true := fun d hd => by
    obtain ⟨p, hp, rfl⟩ := List.mem_map.mp hd
    exact ih p hp
  rw [tD_gate]
  refine eqv_tup fun d hd => ?_
  rcases List.mem_cons.mp hd with rfl | hd
  · exact eqv_str _
  rcases List.mem_cons.mp hd with rfl | hd
  · exact eqv_int _
  rcases List.mem_cons.mp hd with rfl | hd
  · cases b with
    | true => exact eqv_tup parts
    | false => exact eqv_list parts
  · cases hd
/-- trees that are equal are the same -/
theorem eqv_same : ∀ t u : T, PyData.eqv (tD t) (tD u) = true → t = u := by
  intro t
  refine T.ind (P := fun t => ∀ u, PyData.eqv (tD t) (tD u) = true → t = u) (fun n u h => ?_) (fun b k ps ih u h => ?_) t
  · cases u with
    | leaf m =>
      rw [tD_leaf, tD_leaf, PyData.eqv] at h
      have := beq_iff_eq.mp h
      rw [show n = m by omega]
    | gate b k ps => rw [tD_leaf, tD_gate, PyData.eqv] at h; cases h
  · cases u with
    | leaf m => rw [tD_leaf, tD_gate, PyData.eqv] at h; cases h
    | gate c l qs =>
      rw [tD_gate, tD_gate, PyData.eqv, PyData.eqvAll, PyData.eqvAll, PyData.eqvAll] at h
      obtain ⟨_, h⟩ := Bool.and_eq_true_iff.mp h
      obtain ⟨h1, h⟩ := Bool.and_eq_true_iff.mp h
      obtain ⟨h2, _⟩ := Bool.and_eq_true_iff.mp h
      rw [PyData.eqv] at h1
      have e1 : k = l := by have := beq_iff_eq.mp h1; omega
      have go : ∀ xs ys : List T, (∀ p ∈ xs, ∀ u, PyData.eqv (tD p) (tD u) = true → p = u) → PyData.eqvAll (xs.map tD) (ys.map tD) = true → xs = ys := by
        intro xs
        induction xs with
        | nil =>
          intro ys _ h
          cases ys with
          | nil => rfl
          | cons y ys => rw [List.map_nil, List.map_cons, PyData.eqvAll] at h; cases h
        | cons x xs ih2 =>
          intro ys hx h
          cases ys with
          | nil => rw [List.map_nil, List.map_cons, PyData.eqvAll] at h; cases h
          | cons y ys =>
            rw [List.map_cons, List.map_cons, PyData.eqvAll] at h
            obtain ⟨g1, g2⟩ := Bool.and_eq_true_iff.mp h
            rw [hx x List.mem_cons_self y g1, ih2 ys (fun p hp => hx p (List.mem_cons_of_mem _ hp)) g2]
      cases b with
      | true =>
        cases c with
        | true =>
          have h2' : PyData.eqv (.tuple (ps.map tD)) (.tuple (qs.map tD)) = true := h2
          rw [PyData.eqv] at h2'
          rw [e1, go ps qs ih h2']
        | false =>
          have h2' : PyData.eqv (.tuple (ps.map tD)) (.list (qs.map tD)) = true := h2
          rw [PyData.eqv] at h2'; cases h2'
      | false =>
        cases c with
        | true =>
          have h2' : PyData.eqv (.list (ps.map tD)) (.tuple (qs.map tD)) = true := h2
          rw [PyData.eqv] at h2'; cases h2'
        | false =>
          have h2' : PyData.eqv (.list (ps.map tD)) (.list (qs.map tD)) = true := h2
          rw [PyData.eqv] at h2'
          rw [e1, go ps qs ih h2']
open Classical in
noncomputable def sameT (t u : T) : Bool := decide (t = u)
open Classical in
theorem eqv_sameT (t u : T) : PyData.eqv (tD t) (tD u) = sameT t u := by
  unfold sameT
  by_cases q : t = u
  · subst q; rw [eqv_tree, decide_eq_true rfl]
  · rw [decide_eq_false q]
    cases h : PyData.eqv (tD t) (tD u) with
    | false => rfl
    | true => exact (q (eqv_same t u h)).elim
end Kh

set_option maxRecDepth 100000
set_option maxHeartbeats 4000000
namespace K31
open PySem PySem.Spec PyProof.Rows L2 Kh
/-- what isinstance, == and the operators ask of the class -/
structure TxD (K : PySem.W.Frag) (C : Addr) : Prop where
  ha : PySem.W.findIn K (.ref C) "__class__" = some (some (.builtin "object.__class__"))
  hn : PySem.W.specialIn K (.builtin "object.__class__") "__get__" = some (some (.builtin "getset_descriptor.__get__"))
  htk : PySem.W.takesIn K (.builtin "object.__class__") = some true
  hm : PySem.W.mroIn K C (.type "object") = some true
  own : PySem.W.kitOne K (.ref C) (.ref C) = some true
  oth : ∀ n ∈ ["NoneType", "bool", "int", "str", "list", "tuple"], PySem.W.kitOne K (.type n) (.ref C) = some false
  nf : ∀ n ∈ ["NoneType", "bool", "int", "str", "list", "tuple"], PySem.W.notFirst K C (.type n) = true
  sf : PySem.W.selfFirst K C = true
  ne : PySem.W.findIn K (.ref C) "__ne__" = some (some (.builtin "object.__ne__"))
  ob : PySem.W.subIn K (.ref C) (.type "object") = some true
theorem lv_con : ∀ t, lv (con t) = lv t := Kh.T.ind (fun n => by rw [con_leaf]) fun b k ps ih => by
  rw [con_gate, lv_gate, lv_gate, List.flatMap_map]
  induction ps with
  | nil => rfl
  | cons p r ih2 => rw [List.flatMap_cons, List.flatMap_cons, ih p List.mem_cons_self, ih2 fun q h => ih q (List.mem_cons_of_mem _ h)]
theorem wf_con : ∀ t, Wf t → Wf (con t) := Kh.T.ind (fun n h => by rw [con_leaf]; exact h) fun b k ps ih h => by
  obtain ⟨h1, h2, h3⟩ := (wf_gate b k ps).mp h
  rw [con_gate, wf_gate, List.length_map]
  refine ⟨by omega, by omega, fun p hp => ?_⟩
  obtain ⟨q, hq, rfl⟩ := List.mem_map.mp hp
  exact ih q hq (h3 q hq)
theorem dep_con : ∀ t d, dep t ≤ d → dep (con t) ≤ d := Kh.T.ind (fun n d h => by rw [con_leaf]; exact h) fun b k ps ih d h => by
  rw [con_gate]
  cases d with
  | zero => exact absurd h (dep_gate0 _ _ _)
  | succ d =>
    rw [dep_gate] at h ⊢
    intro p hp
    obtain ⟨q, hq, rfl⟩ := List.mem_map.mp hp
    exact ih q hq d (h q hq)
theorem mem_con (t : Kh.T) : mem (con t) = mem t := by unfold mem; rw [lv_con]
theorem okt_con {t : Kh.T} (h : Okt t) : Okt (con t) := ⟨wf_con t h.1, by rw [lv_con]; exact h.2.1, dep_con t 5 h.2.2.1, by rw [lv_con, mem_con]; exact h.2.2.2⟩
theorem TreeAt.eqv {K : PySem.W.Frag} {C : Addr} {H : Hp} {t u : Kh.T} {x : Addr} (h : TreeAt K C H t x) (e : flg true t = flg true u) : TreeAt K C H u x := by
  obtain ⟨dx, v1, v2, v3, h0, h1, h2, h3⟩ := h
  have e2 : lv t = lv u := by rw [← lv_flg true t, ← lv_flg true u, e]
  refine ⟨dx, v1, v2, v3, h0, ?_, ?_, ?_⟩
  · rw [← e]; exact h1
  · rw [← e2]; exact h2
  · rw [show mem u = mem t by unfold mem; rw [e2]]; exact h3
theorem nice_of {t : Kh.T} (h : Okt t) : Nice 50000 10 (tD t) := by
  have h0 := h.2.1
  have hl : ∀ t, Wf t → ∀ n ∈ lv t, n < 24 := Kh.T.ind (fun n wf m hm => by rw [lv_leaf] at hm; rw [List.mem_singleton.mp hm]; rw [Wf] at wf; exact wf) fun b k ps ih wf m hm => by
    rw [lv_gate] at hm
    obtain ⟨p, hp, hm⟩ := List.mem_flatMap.mp hm
    exact ih p hp (((wf_gate b k ps).mp wf).2.2 p hp) m hm
  have h1 := siz_le t 5 h.1 h.2.2.1
  exact (nice_tree t 5 h.1 (hl t h.1) h.2.2.1 (by omega)).mono (by omega) (Nat.le_refl _)
section
variable {P : Program} {w : World} {K : PySem.W.Frag} {mg : Str → Option Value} {base : Heap} {a : Nat → Addr} {fd : Nat → FuncData} {C : Addr} {tk : Nat → Tok}
theorem isI_at {H : Hp} {S : Addr → Prop} {t : Kh.T} {x : Addr} (h : TreeAt K C (off S H) t x) : isI H C (.ref x) := by
  obtain ⟨dx, v1, v2, v3, h0, _⟩ := h
  exact ⟨x, dx, _, rfl, (off_some h0).2⟩
/-- a method of a tree whose answer is a tree -/
def spMT {α : Type} (K : PySem.W.Frag) (C : Addr) (enc : α → List PyData) (pre : Kh.T → α → Prop) (g : Kh.T → α → Kh.T) : Sp := fun vs H Q _ => ∃ (S : Addr → Prop) (t : Kh.T) (x : Addr) (y : α) (us : List V), vs = .ref x :: us ∧ Kn S H ∧ TreeAt K C (off S H) t x ∧ Okt t ∧ DpAll K (off S H) us (enc y) ∧ pre t y ∧
  ∀ z H', Same H H' → TreeAt K C (off S H') (g t y) z → Q (.ref z) H'
abbrev spInv (K : PySem.W.Frag) (C : Addr) : Sp := spMT K C (fun _ : Unit => []) (fun _ _ => True) (fun t _ => con t)
/-- of two trees -/
def spTT (K : PySem.W.Frag) (C : Addr) (k : Nat) : Sp := fun vs H Q _ => ∃ (S : Addr → Prop) (t u : Kh.T) (x y : Addr), vs = [.ref x, .ref y] ∧ Kn S H ∧ TreeAt K C (off S H) t x ∧ TreeAt K C (off S H) u y ∧ Okt t ∧ Okt u ∧ Okt (.gate false k [t, u]) ∧
  ∀ z H', Same H H' → TreeAt K C (off S H') (.gate false k [t, u]) z → Q (.ref z) H'
/-- a tree and anything -/
def spEqT (K : PySem.W.Frag) (C : Addr) : Sp := fun vs H Q _ => ∃ (S : Addr → Prop) (t : Kh.T) (x : Addr) (y : V), vs = [.ref x, y] ∧ Kn S H ∧ TreeAt K C (off S H) t x ∧ Okt t ∧
  ((∃ u z, y = .ref z ∧ TreeAt K C (off S H) u z ∧ Okt u ∧ ∀ H', Same H H' → Q (.bl (sameT (flg true t) (flg true u))) H') ∨ (∃ d, Dp K (off S H) y d ∧ ∀ H', Same H H' → Q (.bl false) H'))
theorem ok_Tree_invert (T : Txt K mg a fd C tk) (U : TxC K mg a C) : FnOk P w K mg base CX0 10 (a 18) (fd 18) ["self"] (spInv K C) := by
  have G_contrary := ok_contrary (P := P) (w := w) (base := base) T 6
  have G_Tree_init := ok_Tree_init (P := P) (w := w) (base := base) T U
  refine T.F_Tree_invert.ok sc_Tree_invert (fun vs H Q E h => by obtain ⟨_, _, _, _, us, rfl, _, _, _, hd, _⟩ := h; have := dpa_len hd; simp at this; simp [this]) (fun cdv A outer s H vs Q E hr h => ?_)
  obtain ⟨S, t, x, y, us, rfl, kn, ⟨dx, v1, v2, v3, hx, d1, d2, d3⟩, ok, ⟨⟩, -, q⟩ := h
  refine ⟨_, (pss_one (ps_ret (pe_make U.M_Tree G_Tree_init (hr.mono (by omega)) (by rfl) U.m_Tree T.b_Tree_init .nil pass0 (pa_cons (pe_call G_contrary (hr.mono (by omega)) (by rfl) T.m_contrary T.F_contrary.kp T.b_contrary .nil pass0 (pa_cons (k_fld (K := K) (pv 0) rfl) pa_nil)) pa_nil)))), ?_⟩
  refine s_ret (mk_tree (con t) (okt_con ok) kn (fun Q q => ?_) fun z H' s h => q z H' s h)
  refine t_call1 (t_fld (t_var rfl ⟨x, C, dx, _, v1, rfl, (off_some hx).2, U.cls, U.n_shape, rfl, S, flg true t, kn, .cons d1 .nil, preOf (okt_flg ok), fun v H' s h => q v H' s ?_⟩))
  replace h : Dp K (off S H') v (tD (con (flg true t))) := h
  rw [con_flg] at h; exact h
theorem okt_of_flg {t : Kh.T} (c : Bool) (h : Okt (flg c t)) : Okt t := ⟨(wf_flg c t).mp h.1, by have := h.2.1; rwa [lv_flg] at this, (dep_flg c t 5).mp h.2.2.1, by have := h.2.2.2; rwa [lv_flg, mem_flg] at this⟩
theorem isi_own {S : Addr → Prop} {H : Hp} {t : Kh.T} {x : Addr} {Q : VK} (U : TxC K mg a C) (D : TxD K C) (h : TreeAt K C (off S H) t x) (q : Q (.bl true) H) : rIsi K [.ref x, .ref C] H Q := by
  obtain ⟨dx, v1, v2, v3, hx, _⟩ := h
  exact ⟨_, _, .ref C, .ref C, true, rfl, .own C, .base (.ins (off_some hx).2 U.cls D.ha D.hn D.htk D.hm), D.own, q⟩
theorem ty_in : ∀ {d : PyData} {K : PySem.W.Frag} {H : Hp} {v : V}, Dp K H v d → tyN d ∈ ["NoneType", "bool", "int", "str", "list", "tuple"]
  | .none, _, _, _, _ => by simp [tyN]
  | .bool _, _, _, _, _ => by simp [tyN]
  | .int _, _, _, _, _ => by simp [tyN]
  | .str _, _, _, _, _ => by simp [tyN]
  | .list _, _, _, _, _ => by simp [tyN]
  | .tuple _, _, _, _, _ => by simp [tyN]
  | .dict _, _, _, _, h => by cases h
theorem isi_oth {S : Addr → Prop} {H : Hp} {d : PyData} {v : V} {Q : VK} (D : TxD K C) (h : Dp K (off S H) v d) (q : Q (.bl false) H) : rIsi K [v, .ref C] H Q :=
  ⟨_, _, _, .ref C, false, rfl, .own C, tyx_d (dp_same off_sub _ _ h), D.oth _ (ty_in h), q⟩
/-- the object's shape -/
theorem fld_shape {S : Addr → Prop} {σ : L2.St} {H : Hp} {t : Kh.T} {x : Addr} {i : Nat} {Q : VK} (U : TxC K mg a C) (h : TreeAt K C (off S H) t x) (hi : σ[i]? = some (some (.ref x))) (q : ∀ v, Dp K (off S H) v (tD (flg true t)) → Q v H) : tFld K (tVar i) "_shape" σ H Q := by
  obtain ⟨dx, v1, v2, v3, hx, d1, _⟩ := h
  exact t_fld (t_var hi ⟨x, C, dx, _, v1, rfl, (off_some hx).2, U.cls, U.n_shape, rfl, q v1 d1⟩)
theorem shape_two {S : Addr → Prop} {σ : L2.St} {H : Hp} {t u : Kh.T} {x y : Addr} {k : Nat} {Q : VK} (U : TxC K mg a C) (kn : Kn S H) (h1 : TreeAt K C (off S H) t x) (h2 : TreeAt K C (off S H) u y) (i1 : σ[0]? = some (some (.ref x))) (i2 : σ[1]? = some (some (.ref y)))
    (q : ∀ v H', Same H H' → Dp K (off S H') v (tD (.gate false k [flg true t, flg true u])) → Q v H') :
    tTup (tCons (tC (.str "of")) (tCons (tC (.int (k : Nat))) (tCons (tLst (tCons (tFld K (tVar 0) "_shape") (tCons (tFld K (tVar 1) "_shape") tNil))) tNil))) σ H Q := by
  refine t_tup (a_cons (t_c (a_cons (t_c (a_cons (t_lst (a_cons (fld_shape U h1 i1 fun v1 d1 => a_cons (fld_shape U h2 i2 fun v2 d2 => ⟨le2, fun p hp => ?_⟩)))))))))
  have sp := same_new (o := HO.lst [v1, v2]) hp
  have dl := dp_newL kn hp (.cons d1 (.cons d2 .nil))
  refine ⟨le3, fun r hr => q _ _ (sp.trans (same_new hr)) ?_⟩
  rw [tD_gate]
  exact dp_newT (kn.same sp) hr (.cons (.str _) (.cons (.int _) (.cons dl .nil)))
theorem flg2 (t u : Kh.T) (k : Nat) : flg true (.gate false k [flg true t, flg true u]) = flg true (.gate false k [t, u]) := by
  rw [flg_gate, flg_gate]; simp [flg_flg]
theorem ok_Tree_eq (T : Txt K mg a fd C tk) (U : TxC K mg a C) (D : TxD K C) : FnOk P w K mg base CX0 2 (a 19) (fd 19) ["self", "other"] (spEqT K C) := by
  refine T.F_Tree_eq.ok sc_Tree_eq (fun vs H Q E h => by obtain ⟨_, _, _, _, rfl, _⟩ := h; rfl) (fun cdv A outer s H vs Q E hr h => ?_)
  obtain ⟨S, t, x, y, rfl, kn, ht, ot, h⟩ := h
  refine ⟨_, (pss_one (ps_ret (pe_and (pe_callB (k_isi (K := K)) (by rfl) T.z_isinstance (by decide +kernel) (pa_cons (pv 1) (pa_cons (pe_glob (v := .ref _) (by rfl) U.m_Tree rfl) pa_nil))) (pe_one (pe_cmpR (k_eqD (K := K) hr.units) (k_fld (K := K) (pv 0) rfl) (k_fld (K := K) (pv 1) rfl) (nomark _)))))), ?_⟩
  rcases h with ⟨u, z, rfl, hu, ou, q⟩ | ⟨d, hd, q⟩
  · refine s_ret (t_andV (t_cb2 (t_var rfl (t_c (isi_own U D hu (bl_ifT ?_))))))
    refine t_op (fld_shape U ht rfl fun v1 d1 => fld_shape U hu rfl fun v2 d2 => ⟨_, _, dp_same off_sub _ _ d1, dp_same off_sub _ _ d2, (nice_of (okt_flg ot)).shaped (by decide), (nice_of (okt_flg ou)).shaped (by decide), ?_⟩)
    rw [eqv_sameT]
    exact q H (Same.refl _)
  · exact s_ret (t_andV (t_cb2 (t_var rfl (t_c (isi_oth D hd (bl_ifF (q H (Same.refl _))))))))
end
end K31

set_option maxRecDepth 100000
set_option maxHeartbeats 4000000
/-! set(list of whole numbers), sorted(set(..)), len(set(..)) -/
namespace Kh
open PySem PySem.Spec PyProof.Rows L2
section
variable {P : Program} {w : World} {B : Around} {X0 : Value → Shared → Prop} {z : Shared}
/-- set(l), l a list of whole numbers -/
theorem set_of_list {l : Addr} {js : Array Value} (ks : List Int) {R0 : Value → Shared → Prop} (nh : B.handled = none) (isl : z.heap.IsList l js) (insA : IntsAre js.toList ks) (few : ks.length + 1 < scanBound)
    (fin : ∀ (g1 : Heap) (tk c : Nat), SetR w g1 z.heap.objs.size (fun j => decide (j ∈ ks)) c → c ≤ ks.length → (∀ b o, z.heap.get? b = some o → g1.get? b = some o) → R0 (.ref z.heap.objs.size) { z with heap := g1, toks := tk }) :
    wpAny (model P w) B (call (.type "set") [.ref l]) R0 X0 z := by
  have jl : js.size = ks.length := by
    have q := IntsAre.length insA
    rwa [Array.length_toList] at q
  obtain ⟨_, _, hmro⟩ := F.called_set.mro
  have m1 := F.called_set.made
  have m2 := F.called_set.sub
  refine wpAny_call (codeAny_of_tree ?_)
  show wpAny _ _ (callAny (Value.type "set") _) _ _ _
  refine wpAny_pure ⟨(Code.quiet_builtin _ (by decide +kernel)), (codeAny_builtin F.entry_type_call ?_)⟩
  rw [(Around.under_plain (weight_type_call_type "set" [.ref l] []) rfl)]
  have m3 := F.called_set.notType
  have m4 := F.called_set.canCreate
  have m5 := F.typeCall_set_1 (.ref l)
  repeat any_goals first | assumption | wp_step
  refine codeAny_mono (code_set_led1 (.ref l) (E := X0) (Q₁ := fun ob z1 => ob = .ref z.heap.objs.size ∧ z1 = { z with heap := z.heap.push { cls := .type "set", dict := none, data := .set #[] 0 (.fresh 0 0 (!w.params.followText "set-order")) } }) ⟨rfl, rfl⟩) fun r z1 hr => ?_
  cases r with
  | error e => exact hr
  | ok fl =>
    cases fl with
    | ret ob =>
      obtain ⟨rfl, rfl⟩ := hr
      have n1 : (z.heap.push { cls := .type "set", dict := none, data := .set #[] 0 (.fresh 0 0 (!w.params.followText "set-order")) }).get? z.heap.objs.size = some { cls := .type "set", dict := none, data := .set #[] 0 (.fresh 0 0 (!w.params.followText "set-order")) } := Heap.get?_push_size _ rfl
      have n2 : Shared.TypeIs { z with heap := z.heap.push { cls := .type "set", dict := none, data := .set #[] 0 (.fresh 0 0 (!w.params.followText "set-order")) } } (.ref z.heap.objs.size) "set" := ⟨_, n1, rfl⟩
      have n3 := F.called_set.init.lookup
      have n4 := F.called_set.init.bind (.ref z.heap.objs.size)
      repeat any_goals first | assumption | wp_step
      refine codeAny_mono (codeAny_call_builtin (R := wants (fun r z2 => r = .none ∧ ∃ g1 tk c, z2 = { z with heap := g1, toks := tk } ∧ SetR w g1 z.heap.objs.size (fun j => decide (j ∈ ks)) c ∧ c ≤ ks.length ∧ (∀ b o, z.heap.get? b = some o → g1.get? b = some o)) X0)
          F.called_set.init.plain F.entry_set_init (check_set_init_1 n2 ?_)) fun r₂ z2 hr₂ => ?_
      · obtain ⟨ol, hol, hcl, nl, hdl⟩ := isl
        obtain ⟨oc, od, odt, os⟩ := ol
        simp only at hcl hdl
        subst hcl; subst hdl
        have hol' : (z.heap.push { cls := .type "set", dict := none, data := .set #[] 0 (.fresh 0 0 (!w.params.followText "set-order")) }).get? l = some { cls := .type "list", dict := od, data := .seq js nl, slots := os } := Heap.get?_push_of_some _ hol
        have p1 := F.sub_list_set
        have p2 := F.sub_list_frozenset
        have p3 : (Value.type "list" == Value.type "dict") = false := by decide
        have p4 : (z.heap.push { cls := .type "set", dict := none, data := .set #[] 0 (.fresh 0 0 (!w.params.followText "set-order")) }).IsList l js := ⟨_, hol', rfl, nl, rfl⟩
        unfold Builtin.«set.__init__»
        unfold noKeywords
        unfold Builtin.Frozenset.updateFrom
        generalize hPI : pyIter = PI
        wp_walk
        subst hPI
        refine wpAny_pyIter_list p4 ?_
        refine wpAny_bind (wpAny_runValue ?_)
        have ls : l < z.heap.objs.size := Heap.lt_size hol
        have p5 : B.in1.in1.in1.handled = none := by simp [nh]
        have p6 : l ≠ (z.heap.push { cls := .type "set", dict := none, data := .set #[] 0 (.fresh 0 0 (!w.params.followText "set-order")) }).objs.size := by
          rw [Heap.size_push]
          exact Nat.ne_of_lt (Nat.lt_succ_of_lt ls)
        have p7 : z.heap.objs.size ∉ [(z.heap.push { cls := .type "set", dict := none, data := .set #[] 0 (.fresh 0 0 (!w.params.followText "set-order")) }).objs.size, l] := by
          rw [Heap.size_push]
          simp only [List.mem_cons, List.not_mem_nil, or_false, not_or]
          exact ⟨Nat.ne_of_lt (Nat.lt_succ_self _), Nat.ne_of_gt ls⟩
        have p8 : ∀ (i : Nat) (v : Value), js[i]? = some v → ∃ k t, ks[i]? = some k ∧ v = .int k t := fun i v hv => by
          have hi : i < ks.length := by rw [← jl]; exact (Array.getElem?_eq_some_iff.mp hv).1
          obtain ⟨t, e⟩ := PyProof.Rows.IntsAre.int_at insA i v (by rw [Array.getElem?_toList]; exact hv)
          refine ⟨ks[i], t, List.getElem?_eq_getElem hi, ?_⟩
          rw [e, List.getD_eq_getElem?_getD, List.getElem?_eq_getElem hi] <;> rfl
        refine set_update_ints ((Walks.list p5 _ l p6 js).toS) z.heap.objs.size p7 ks jl few p8 (js.size - 0) 0 _ (by omega) (Nat.zero_le _) ⟨⟨_, Heap.get?_push_size _ rfl, rfl, rfl⟩, (p4.push _)⟩ ?empty ?whole
        case empty =>
          have hget : ((z.heap.push { cls := .type "set", dict := none, data := .set #[] 0 (.fresh 0 0 (!w.params.followText "set-order")) }).push { cls := .type "list_iterator", data := .fields #[.ref l, .int 0 0] }).get? z.heap.objs.size = some { cls := .type "set", dict := none, data := .set #[] 0 (.fresh 0 0 (!w.params.followText "set-order")) } := Heap.get?_push_of_some _ n1
          exact ⟨0, Nat.le_refl 0, setR_new_at hget⟩
        case whole =>
          intro z3 c3 hm hc3 hS3
          obtain ⟨g1, g2, d3, tk3, os3⟩ := z3
          have eg : g2 = z.gens := hm.gens
          have ed : d3 = z.drawn := hm.drawn
          have eo : os3 = z.os := hm.os
          subst eg; subst ed; subst eo
          show wpAny _ _ _ _ _ _
          refine wpAny_pure ?_
          show wpAny _ _ (ret (Value.none)) _ _ _
          rw [jl] at hc3
          refine wpAny_pure ⟨rfl, g1, tk3, c3, rfl, hS3, hc3, fun b o e => ?_⟩
          have b0 : b < z.heap.objs.size := Heap.lt_size e
          have b2 : b ≠ (z.heap.push { cls := .type "set", dict := none, data := .set #[] 0 (.fresh 0 0 (!w.params.followText "set-order")) }).objs.size := by rw [Heap.size_push]; exact Nat.ne_of_lt (Nat.lt_succ_of_lt b0)
          exact hm.heap b o (by simp only [List.mem_cons, List.mem_singleton, List.not_mem_nil, or_false, not_or]; exact ⟨Nat.ne_of_lt b0, b2⟩) (Heap.get?_push_of_some _ (Heap.get?_push_of_some _ e))
      · cases r₂ with
        | error e => exact hr₂
        | ok fl₂ =>
          cases fl₂ with
          | ret r =>
            obtain ⟨rfl, g1, tk, c', rfl, hS', hc', hk'⟩ := hr₂
            repeat any_goals first | assumption | wp_step
            exact fin _ _ _ hS' hc' hk'
          | _ => exact hr₂.elim
    | _ => exact hr.elim
end
section
variable {X : Cx}
/-- set(xs), xs a list of ints -/
def rSetOf (K : PySem.W.Frag) (w : World) : List V → Hp → VK → Prop := fun vs H Q => ∃ (l : Addr) (ks : List Int), vs = [V.ref l] ∧ SqL K H l (ks.map V.int) ∧ ks.length ≤ 1000 ∧
  ∀ (p : Addr) (n : Nat), H p = none → n ≤ ks.length → Q (.ref p) (upd H p (SetO w p (fun j => decide (j ∈ ks)) n))
theorem cr_setOf (hc : X.calm = true) : CallR X (.type "set") (rSetOf X.K X.w) := by
  intro pins s σ H xs us Q I r h
  obtain ⟨l, ks, rfl, hs, hz, q⟩ := h
  obtain ⟨u, rfl, ru⟩ := r.one
  cases ru
  obtain ⟨its, rv, ⟨⟨cls, dd, data, sl⟩, n, ho, hcl, hdn, hd⟩, hlen⟩ := I.list hs
  refine set_of_list (js := its.toArray) ks (I.ok.hd hc) ⟨_, ho, hcl, n, hd⟩ (by simpa using ints_of_vals rv) (Nat.lt_of_le_of_lt (show ks.length + 1 ≤ 1001 by omega) (by decide)) fun g1 tk c hS hc kp => ?_
  exact ⟨.ref _, upd H s.heap.objs.size (SetO X.w s.heap.objs.size (fun j => decide (j ∈ ks)) c), I.laid (t' := tk) kp (Nat.le_refl _) (setO_new hS), rfl, q _ c (I.hok.fresh (Nat.le_refl _)) hc⟩
end
end Kh

set_option maxRecDepth 100000
set_option maxHeartbeats 1000000
/-! for over data -/
namespace Kh
open PySem PySem.Spec PyProof.Rows L2
theorem s_for {K : PySem.W.Frag} {S : Addr → Prop} {H : Hp} {σ : L2.St} {t : TE} {g : TG} {tb : TS} {D : Ends} {b : Bool} {ds : List PyData} (kn : Kn S H)
    (hev : ∀ Q : VK, (∀ u H1, Same H H1 → Dp K (off S H1) u (sq b ds) → Q u H1) → t σ H Q)
    (step : ∀ xs H1, Same H H1 → Kn S H1 → DpAll K (off S H1) xs ds → xs.length = ds.length → ∃ Pv : Nat → L2.St → Hp → Prop, Pv 0 σ H1 ∧ (∀ i σ' H', i ≤ ds.length → Pv i σ' H' → Same (off S H1) H') ∧
      (∀ i x d σ' H', ds[i]? = some d → Dp K (off S H1) x d → Pv i σ' H' → g x σ' H' fun σ2 H2 => tb { D with nx := Pv (i + 1), ct := Pv (i + 1), bk := D.nx } σ2 H2) ∧ (∀ σ' H', Pv ds.length σ' H' → D.nx σ' H')) :
    tFor (fun σ H R => iList K t σ H R ∨ iTup K t σ H R) g tb D σ H := by
  refine it_any hev fun J xs H1 s1 ha w => ?_
  have ln := dpa_len ha
  obtain ⟨Pv, h0, hG, hs, hd⟩ := step xs H1 s1 (kn.same s1) ha ln
  refine for_it w Pv h0 (fun i σ' H' hi p => hG i σ' H' (by omega) p) (fun i x σ' H2 H3 hi p y => ?_) (fun σ' H' p => hd σ' H' (by rw [← ln]; exact p))
  obtain ⟨rfl, xi⟩ := y
  obtain ⟨d, di, dx⟩ := dpa_at ha xi
  exact hs i x d σ' H3 di dx p
section
variable {σ : L2.St} {H : Hp} {Q : VK} {D : Ends} {te : TE} {i : Nat} {v : V}
theorem g_name {k : L2.St → Hp → Prop} (h : k (σ.set i (some v)) H) : gName i v σ H k := h
end
/-- an int list by its strictly rising order -/
theorem rise_eq : ∀ {xs ys : List Int}, xs.Pairwise (· < ·) → ys.Pairwise (· < ·) → (∀ k, k ∈ xs ↔ k ∈ ys) → xs = ys
  | [], [], _, _, _ => rfl
  | [], y :: ys, _, _, h => by have := (h y).mpr List.mem_cons_self; cases this
  | x :: xs, [], _, _, h => by have := (h x).mp List.mem_cons_self; cases this
  | x :: xs, y :: ys, hx, hy, h => by
    have hx' := List.pairwise_cons.mp hx
    have hy' := List.pairwise_cons.mp hy
    have e : x = y := by
      have h1 := (h x).mp List.mem_cons_self
      have h2 := (h y).mpr List.mem_cons_self
      rcases List.mem_cons.mp h1 with h1 | h1
      · exact h1
      · rcases List.mem_cons.mp h2 with h2 | h2
        · exact h2.symm
        · have a1 := hy'.1 x h1
          have a2 := hx'.1 y h2
          omega
    subst e
    have t : xs = ys := rise_eq hx'.2 hy'.2 fun k => by
      constructor
      · intro hk
        rcases List.mem_cons.mp ((h k).mp (List.mem_cons_of_mem _ hk)) with e | e
        · subst e; exact absurd (hx'.1 k hk) (by omega)
        · exact e
      · intro hk
        rcases List.mem_cons.mp ((h k).mpr (List.mem_cons_of_mem _ hk)) with e | e
        · subst e; exact absurd (hy'.1 k hk) (by omega)
        · exact e
    rw [t]
/-- len(s), s a set of ints -/
def rLenSet (w : World) : List V → Hp → VK → Prop := fun vs H Q => ∃ (a : Addr) (S : Int → Bool) (n : Nat), vs = [V.ref a] ∧ H a = some (SetO w a S n) ∧ n ≤ 1000 ∧
  ∀ ns : List Int, ns.Nodup → (∀ k, k ∈ ns ↔ S k = true) → ns.length = n → Q (.int (n : Nat)) H
theorem cr_lenSet {X : Cx} : CallR X (.builtin "len") (rLenSet X.w) := by
  intro pins s σ H xs us Q I r h
  obtain ⟨a, S, n, rfl, ha, hz, q⟩ := h
  obtain ⟨u, rfl, ru⟩ := r.one
  cases ru
  obtain ⟨o, es, ep, t, ho, hex, hd, hg, hnd, hk, hb, hf, hn, _⟩ := setO_get I ha
  exact call_len_set ho hex hd hf (by omega) ⟨.int n, H, I.tok _, ⟨_, by rw [hn]⟩, q _ hnd (fun k => (hk k).symm) (by rw [List.length_map, Array.length_toList]; exact hn)⟩
end Kh

set_option maxRecDepth 100000
set_option maxHeartbeats 1000000
/-! sorted of a list of data -/
namespace Kh
open PySem PySem.Spec PyProof.Rows L2
def rSortD (K : PySem.W.Frag) : List V → Hp → VK → Prop := fun vs H Q => ∃ (a : Addr) (xs : List V) (ds : List PyData), vs = [V.ref a] ∧ SqL K H a xs ∧ DpAll K H xs ds ∧ PySem.W.AllAlike ds ∧ PySem.W.Sortable ds ∧ (∀ d ∈ ds, d.depth ≤ 60) ∧
  ∀ (p : Addr) (bs : List (V × PyData)), H p = none → bs.Perm (xs.zip ds) → Q (.ref p) (upd H p (.lst (bs.map Prod.fst)))
theorem zip_mem_dp {K : PySem.W.Frag} {H : Hp} : ∀ {xs : List V} {ds : List PyData}, DpAll K H xs ds → ∀ b ∈ xs.zip ds, Dp K H b.1 b.2
  | _, _, .nil, b, hb => by simp at hb
  | _, _, .cons h t, b, hb => by
    rw [List.zip_cons_cons] at hb
    rcases List.mem_cons.mp hb with rfl | hb
    · exact h
    · exact zip_mem_dp t b hb
theorem zip_snd {K : PySem.W.Frag} {H : Hp} {xs : List V} {ds : List PyData} (h : DpAll K H xs ds) : (xs.zip ds).map Prod.snd = ds := List.map_snd_zip (by rw [dpa_len h]; exact Nat.le_refl _)
theorem zip_fst {K : PySem.W.Frag} {H : Hp} {xs : List V} {ds : List PyData} (h : DpAll K H xs ds) : (xs.zip ds).map Prod.fst = xs := List.map_fst_zip (by rw [dpa_len h]; exact Nat.le_refl _)
theorem each_rel : ∀ {xs : List V} {us : List Value} {ds : List PyData}, Vals xs us → xs.length = ds.length → PySem.W.EachIs (fun (v : Value) (b : V × PyData) => RelV b.1 v) us (xs.zip ds)
  | [], _, [], .nil, _ => .nil
  | x :: xs, _, d :: ds, .cons r t, h => .cons r (each_rel t (by simpa using h))
  | [], _, _ :: _, _, h => by simp at h
  | _ :: _, _, [], _, h => by simp at h
theorem each_vals : ∀ {us : List Value} {bs : List (V × PyData)}, PySem.W.EachIs (fun (v : Value) (b : V × PyData) => RelV b.1 v) us bs → Vals (bs.map Prod.fst) us
  | _, _, .nil => .nil
  | _, _, .cons r t => .cons r (each_vals t)
theorem each_and {α β : Type} {R S : α → β → Prop} : ∀ {us : List α} {bs : List β}, PySem.W.EachIs R us bs → (∀ u b, b ∈ bs → R u b → S u b) → PySem.W.EachIs S us bs
  | _, _, .nil, _ => .nil
  | _, _, .cons r t, h => .cons (h _ _ List.mem_cons_self r) (each_and t fun u b hb => h u b (List.mem_cons_of_mem _ hb))
theorem cr_sortD {X : Cx} (hu : X.A.units + 64 < cLine) : CallR X (.builtin "sorted") (rSortD X.K) := by
  intro pins s σ H vs us Q I r h
  obtain ⟨a, xs, ds, rfl, hs, hd, hal, hk, hdp, q⟩ := h
  obtain ⟨u, rfl, ru⟩ := r.one
  cases ru
  obtain ⟨its, rv, hl, hz⟩ := I.list hs
  have e := each_rel rv (dpa_len hd)
  have er : PySem.W.EachIs (fun (v : Value) (b : V × PyData) => ∃ as, Reads s.heap v b.2 as) its (xs.zip ds) := each_and e fun u b hb ru => Dp.reads I b.2 b.1 u (zip_mem_dp hd b hb) ru
  have hlen : (xs.zip ds).length = xs.length := by rw [List.length_zip, dpa_len hd]; omega
  refine PySem.W.sorted_data (enc := Prod.snd) hl.isList e er (by rw [zip_snd hd]; exact hal) (by rw [zip_snd hd]; exact hk) (by rw [hlen]; exact hz) (fun b hb => ?_) fun out ho eo => ?_
  · have hm : b.2 ∈ ds := by
      have h1 : b.2 ∈ (xs.zip ds).map Prod.snd := List.mem_map_of_mem hb
      rwa [zip_snd hd] at h1
    have := hdp _ hm
    omega
  · have hp := List.mergeSort_perm (xs.zip ds) (PySem.W.dataLe false Prod.snd)
    have hv := each_vals eo
    obtain ⟨n, hn⟩ := sortedAll_at s.heap its (List.toArray out)
    refine ⟨.ref (s.heap.objs.size + 1), upd H (s.heap.objs.size + 1) (.lst (((xs.zip ds).mergeSort (PySem.W.dataLe false Prod.snd)).map Prod.fst)), I.laid (t' := s.toks) (fun b o z => sortedAll_old z) (Nat.le_succ _) ⟨?_, out, n, hv, hn⟩, rfl, q _ _ (I.hok.fresh (Nat.le_succ _)) hp⟩
    rw [List.length_map, hp.length_eq, hlen]; exact hz
/-- xs + ys, lists of any kind -/
def rCatS (K : PySem.W.Frag) : R2 := fun x y H Q => ∃ l b xs zs, x = .ref l ∧ y = .ref b ∧ SqL K H l xs ∧ SqL K H b zs ∧ xs.length + zs.length ≤ sizeLine ∧ ∀ p, H p = none → Q (.ref p) (upd H p (.lst (xs ++ zs)))
theorem op_catS {X : Cx} : OpR X (binaryOp .Add) (rCatS X.K) := by
  intro pins s σ H x y v u Q I rx ry h
  obtain ⟨l, b, xs, zs, rfl, rfl, hH, hB, hz, q⟩ := h
  cases rx
  cases ry
  obtain ⟨its, r, ⟨⟨c1, d1, t1, o1⟩, n1, g1, a1, a2, a3⟩, _⟩ := I.list hH
  obtain ⟨its2, r2, ⟨⟨c2, d2, t2, o2⟩, n2, g2, b1, b2, b3⟩, _⟩ := I.list hB
  simp only at a1 a2 a3 b1 b2 b3
  subst a1; subst a2; subst a3; subst b1; subst b2; subst b3
  refine concat_meets ⟨_, g1, rfl⟩ ⟨_, g2, rfl⟩ noFill_list_add seq_list_add PySem.F.slot_list_add PySem.F.entry_list_add (PySem.F.args_list_add_2 _ _) (list_addW l b its.toArray its2.toArray n1 n2 none none o1 o2 (by rw [List.size_toArray, List.size_toArray, ← r.length, ← r2.length]; exact hz)) ⟨g1, g2, ?_⟩
  have ea : its.toArray ++ its2.toArray = (its ++ its2).toArray := by simp
  rw [ea]
  exact ⟨.ref _, _, I.lnew (t' := s.toks) (r.append r2) (by rw [List.length_append]; exact hz), rfl, q _ I.fresh⟩
section
variable {X : Cx} {K : PySem.W.Frag}
theorem k_catS (h : X.K = K := by rfl) : OpR X (binaryOp .Add) (rCatS K) := by subst h; exact op_catS
theorem k_sortD (hu : X.A.units + 64 < cLine) (h : X.K = K := by rfl) : CallR X (.builtin "sorted") (rSortD K) := by subst h; exact cr_sortD hu
theorem k_setOf (hc : X.calm = true) (h : X.K = K := by rfl) : CallR X (.type "set") (rSetOf K X.w) := by subst h; exact cr_setOf hc
end
theorem cat_d {K : PySem.W.Frag} {S : Addr → Prop} {H : Hp} {x y : V} {ds es : List PyData} {Q : VK} (kn : Kn S H) (hx : Dp K (off S H) x (.list ds)) (hy : Dp K (off S H) y (.list es)) (hz : ds.length + es.length ≤ 100000)
    (q : ∀ u H', Same H H' → Dp K (off S H') u (.list (ds ++ es)) → Q u H') : rCatS K x y H Q := by
  obtain ⟨l, xs, rfl, h1, d1⟩ := list_at hx
  obtain ⟨b, zs, rfl, h2, d2⟩ := list_at hy
  refine ⟨l, b, xs, zs, rfl, rfl, off_sub.seq h1, off_sub.seq h2, ?_, fun p hp => q _ _ (same_new hp) (dp_newL kn hp (dpa_app d1 d2))⟩
  rw [dpa_len d1, dpa_len d2]
  exact Nat.le_trans hz (by decide)
theorem sort_d {K : PySem.W.Frag} {S : Addr → Prop} {H : Hp} {x : V} {ds : List PyData} {Q : VK} (kn : Kn S H) (hx : Dp K (off S H) x (.list ds)) (hal : PySem.W.AllAlike ds) (hk : PySem.W.Sortable ds) (hdp : ∀ d ∈ ds, d.depth ≤ 60)
    (q : ∀ u H' es, Same H H' → es.Perm ds → Dp K (off S H') u (.list es) → Q u H') : rSortD K [x] H Q := by
  obtain ⟨l, xs, rfl, h1, d1⟩ := list_at hx
  refine ⟨l, xs, ds, rfl, off_sub.seq h1, dpa_same off_sub _ _ d1, hal, hk, hdp, fun p bs hp pm => ?_⟩
  have pe := pm.map Prod.snd
  rw [zip_snd d1] at pe
  refine q _ _ (bs.map Prod.snd) (same_new hp) pe (dp_newL kn hp ?_)
  have go : ∀ cs : List (V × PyData), (∀ b ∈ cs, b ∈ xs.zip ds) → DpAll K (off S H) (cs.map Prod.fst) (cs.map Prod.snd) := by
    intro cs
    induction cs with
    | nil => intro _; exact .nil
    | cons c cs ih => intro h; exact .cons (zip_mem_dp d1 c (h c List.mem_cons_self)) (ih fun b hb => h b (List.mem_cons_of_mem _ hb))
  exact go bs fun b hb => pm.mem_iff.mp hb
end Kh

set_option maxRecDepth 100000
set_option maxHeartbeats 4000000
namespace K31
open PySem PySem.Spec PyProof.Rows L2 Kh
section
variable {P : Program} {w : World} {K : PySem.W.Frag} {mg : Str → Option Value} {base : Heap} {a : Nat → Addr} {fd : Nat → FuncData} {C : Addr} {tk : Nat → Tok}
theorem off_sb {S : Addr → Prop} {D : Addr} {H H' : Hp} (e : SameBut D H H') : Same (off (plus S D) H) H' := fun c o h => e c o (fun z => (off_some h).1 (.inr z)) (off_some h).2
theorem isTup_leaf {σ : L2.St} {K : PySem.W.Frag} {S : Addr → Prop} {H : Hp} {v : V} {n : Nat} {Q : VK} (hd : Dp K (off S H) v (tD (.leaf n))) (q : Q (.bl false) H) : rIsi K [v, .ty "tuple"] H Q := by
  rw [tD_leaf] at hd
  exact isi_d off_sub hd (kit_tup _) q
theorem isTup_gate {σ : L2.St} {K : PySem.W.Frag} {S : Addr → Prop} {H : Hp} {v : V} {b : Bool} {k : Nat} {ps : List Kh.T} {Q : VK} (hd : Dp K (off S H) v (tD (.gate b k ps))) (q : Q (.bl true) H) : rIsi K [v, .ty "tuple"] H Q := by
  rw [tD_gate] at hd
  exact isi_d off_sub hd (kit_tup _) q
theorem ok__law_leaves (T : Txt K mg a fd C tk) : ∀ d, FnOk P w K mg base CX0 (d + 1) (a 47) (fd 47) ["_law_sketch"] (spLeaves K d)
  | 0 => fn_none fun _ _ _ _ => pre0
  | d + 1 => by
    have G__law_leaves := ok__law_leaves T d
    refine T.F__law_leaves.ok sc__law_leaves (fun vs H Q E h => spP_len (fun _ => rfl) h) (fun cdv A outer s H vs Q E hr h => ?_)
    obtain ⟨S, t, kn, hd, ⟨sm, dp⟩, q⟩ := h
    replace q : ∀ v H', Same H H' → Dp K (off S H') v (.list ((lv t).map nD)) → Q v H' := q
    obtain - | ⟨hd, ⟨⟩⟩ := hd
    rename_i v
    refine ⟨_, (pss_cons (ps_if (pt_not (pt_val (pe_callB (k_isi (K := K)) (by rfl) T.z_isinstance (by decide +kernel) (pa_cons (pv 0) (pa_cons (pe_bltn (v := .ty "tuple") (by rfl) T.z_tuple (by decide +kernel) rfl) pa_nil)))))
        (pss_one (ps_ret (pe_lst (pa_cons (pv 0) pa_nil)))) pss_nil)
      (pss_cons (ps_set (i := 1) sc__law_leaves.nd rfl (Or.inl rfl) (pe_lst pa_nil))
      (pss_cons (ps_for PassesOwn.never rfl (k_pi (K := K) (pe_ix (k_ix (K := K)) (pv 0) pe_int (fun _ _ => rfl))) (pg_name (i := 2) sc__law_leaves.nd rfl (Or.inl rfl))
        (pss_one (ps_expr (pe_bm PySem.F.plainAttrs_list PySem.F.slot_list_extend PySem.F.type_list_extend (k_ext (K := K)) (pv 1) (pa_cons (pe_call G__law_leaves (hr.mono (by omega)) (by rfl) T.m__law_leaves T.F__law_leaves.kp T.b__law_leaves .nil pass0 (pa_cons (pv 2) pa_nil)) pa_nil)))))
      (pss_one (ps_ret (pv 1)))))), ?_⟩
    cases t with
    | leaf n =>
      rw [lv_leaf] at q
      refine s_seq (s_if (b_not (b_val (t_cb2 (t_var rfl (t_c (isTup_leaf (σ := []) hd ⟨_, rfl, ifT rfl ?_⟩)))))))
      rw [tD_leaf] at hd
      exact s_ret (t_lst (a_cons (t_var rfl ⟨le1, fun p hp => q _ _ (same_new hp) (dp_newL kn hp (.cons hd .nil))⟩)))
    | gate b k ps =>
      rw [lv_gate] at q
      refine s_seq (s_if (b_not (b_val (t_cb2 (t_var rfl (t_c (isTup_gate (σ := []) hd ⟨_, rfl, ifF rfl (s_next ?_)⟩)))))))
      rw [tD_gate] at hd
      refine s_seq (s_set (t_lst0 fun D hD => ?_))
      have s0 := same_new (o := HO.lst []) hD
      have kn0 : Kn (plus S D) (upd H D (.lst [])) := (kn.same s0).plus (some_ne (upd_same (o := HO.lst [])))
      have hd0 := dp_same (off_plus hD s0) _ _ hd
      have hU : (upd H D (.lst [])) D = some (.lst []) := upd_same
      generalize hH : upd H D (.lst []) = H0 at *
      refine s_seq (s_for (S := plus S D) (b := b) (ds := ps.map tD) kn0 (fun Q q => t_op (t_var rfl (t_c (ix_d (i := 2) off_sub hd0 rfl rfl fun u du => q u _ (Same.refl _) du)))) fun xs H1 s1 kn1 ha hl => ?_)
      refine ⟨fun i σ' H' => ∃ vs x2, σ' = [some v, some (.ref D), x2] ∧ H' D = some (.lst vs) ∧ DpAll K (off (plus S D) H') vs (((ps.take i).flatMap lv).map nD) ∧ SameBut D H1 H', ⟨[], _, rfl, s1 _ _ hU, .nil, sbut (Same.refl _)⟩, fun i σ' H' _ ⟨_, _, _, _, _, sb⟩ => off_sb sb, ?_, ?_⟩
      · rintro i x dd σ' H' di dx ⟨vs, x2, rfl, hv, dv, sb⟩
        obtain ⟨p, pj, pm, rfl⟩ := at_ps di
        have knH : Kn (plus S D) H' := fun c z => by
          by_cases e : c = D
          · subst e; exact some_ne hv
          · cases h : H1 c with
            | none => exact (kn1 c z h).elim
            | some o => rw [sb c o e h]; exact fun z => nomatch z
        refine g_name (s_drop (t_bm (t_var rfl ⟨.inl ⟨rfl, _, sqL hv⟩, a_cons (t_call1 (t_var rfl ⟨plus S D, p, knH, .cons (dp_same (off_but sb) _ _ dx) .nil, ⟨sm.parts p pm, dep_lt dp p pm⟩, fun u H2 s2 du => ?_⟩))⟩)))
        obtain ⟨z, zs, rfl, hz, dz⟩ := list_at (ds := (lv p).map nD) du
        have l1 := dpa_len dv
        have l2 := dpa_len dz
        rw [List.length_map] at l1 l2
        have tot : ((ps.take i).flatMap lv).length + (lv p).length ≤ (ps.flatMap lv).length := by
          have e : ps.take (i + 1) = ps.take i ++ [p] := by rw [List.take_add_one, pj]; rfl
          have := flat_take_le ps (i + 1)
          rw [e, List.flatMap_append, List.length_append] at this
          simpa using this
        have h1000 := sm.2
        rw [lv_gate] at h1000
        refine ⟨D, z, vs, zs, rfl, rfl, s2 _ _ hv, .inl (off_sub.seq hz), Nat.le_trans (show vs.length + zs.length ≤ 100000 by omega) (by decide), vs ++ zs, _, rfl, upd_same, ?_, bmut (fun c o n h => s2 c o (sb c o n h))⟩
        rw [off_mut (show plus S D D from .inr rfl), List.take_add_one, pj, List.flatMap_append, List.map_append]
        refine dpa_app (dpa_same (off_same s2) _ _ dv) ?_
        show DpAll K (off (plus S D) H2) zs (([p].flatMap lv).map nD)
        simpa using dz
      · rintro σ' H' ⟨vs, x2, rfl, hv, dv, sb⟩
        rw [List.length_map, List.take_length] at dv
        refine nx_of (s_ret (t_var rfl (q _ H' ?_ (dp_lst (kn.new hD) hv (dpa_same off_fin _ _ dv)))))
        exact fun c o h => sb c o (ne_of_none h hD) (s1 c o (s0 c o h))
end
end K31

set_option maxRecDepth 100000
set_option maxHeartbeats 4000000
namespace K31
open PySem PySem.Spec PyProof.Rows L2 Kh
theorem lv24 : ∀ t, Wf t → ∀ n ∈ lv t, n < 24 := Kh.T.ind (fun n wf m hm => by rw [lv_leaf] at hm; rw [List.mem_singleton.mp hm]; rw [Wf] at wf; exact wf) fun b k ps ih wf m hm => by
  rw [lv_gate] at hm
  obtain ⟨p, hp, hm⟩ := List.mem_flatMap.mp hm
  exact ih p hp (((wf_gate b k ps).mp wf).2.2 p hp) m hm
theorem mem_iff {t : Kh.T} (h : Wf t) (n : Nat) : n ∈ mem t ↔ n ∈ lv t := by
  unfold mem
  rw [List.mem_filter, List.mem_range]
  exact ⟨fun q => of_decide_eq_true q.2, fun q => ⟨lv24 t h n q, decide_eq_true q⟩⟩
theorem rise_nat : ∀ {l : List Nat}, l.Pairwise (· < ·) → (l.map fun n : Nat => ((n : Nat) : Int)).Pairwise (· < ·) := fun h => List.pairwise_map.mpr (h.imp fun q => by omega)
theorem mem_rise (t : Kh.T) : (mem t).Pairwise (· < ·) := List.Pairwise.filter _ List.pairwise_lt_range
theorem mem_nodup (t : Kh.T) : (mem t).Nodup := (mem_rise t).imp fun h => Nat.ne_of_lt h
section
variable {P : Program} {w : World} {K : PySem.W.Frag} {mg : Str → Option Value} {base : Heap} {a : Nat → Addr} {fd : Nat → FuncData} {C : Addr} {tk : Nat → Tok}
/-- of this law's helpers: trees of at most 60 leaves -/
abbrev preL (d : Nat) (t : Kh.T) : Prop := preT d t ∧ (lv t).length ≤ 60
abbrev spHouses (K : PySem.W.Frag) (d : Nat) : Sp := spP K t1 (preL d) fun t => nL (mem t)
theorem ok__law_houses (T : Txt K mg a fd C tk) (d : Nat) : FnOk P w K mg base CX0 (d + 2) (a 48) (fd 48) ["_law_sketch"] (spHouses K d) := by
  have G__law_leaves := ok__law_leaves (P := P) (w := w) (base := base) T d
  refine T.F__law_houses.ok sc__law_houses (fun vs H Q E h => spP_len (fun _ => rfl) h) (fun cdv A outer s H vs Q E hr h => ?_)
  obtain ⟨S, t, kn, hd, ⟨pre, few⟩, q⟩ := h
  replace q : ∀ v H', Same H H' → Dp K (off S H') v (.list ((mem t).map nD)) → Q v H' := q
  obtain - | ⟨hd, ⟨⟩⟩ := hd
  rename_i v
  refine ⟨_, (pss_one (ps_ret (pe_callB (cr_sortedSet rfl) (by rfl) T.z_sorted (by decide +kernel) (pa_cons (pe_callTy (k_setOf (K := K) rfl) (by rfl) T.z_set (by decide +kernel) (pa_cons (pe_call G__law_leaves (hr.mono (by omega)) (by rfl) T.m__law_leaves T.F__law_leaves.kp T.b__law_leaves .nil pass0 (pa_cons (pv 0) pa_nil)) pa_nil)) pa_nil)))), ?_⟩
  refine s_ret (t_cb1 (t_cb1 (t_call1 (t_var rfl ⟨S, t, kn, .cons hd .nil, pre, fun u H1 s1 du => ?_⟩))))
  obtain ⟨l, xs, rfl, hs, ha⟩ := list_at (ds := (lv t).map nD) du
  have ex := dpa_ints (ns := (lv t).map fun m : Nat => ((m : Nat) : Int)) (by rw [← nD_map]; exact ha)
  subst ex
  refine ⟨l, (lv t).map fun m : Nat => ((m : Nat) : Int), rfl, off_sub.seq hs, by rw [List.length_map]; omega, fun p n hp hn => ⟨p, _, n, rfl, upd_same, by rw [List.length_map] at hn; omega, fun ns p2 hr hm hl hp2 => ?_⟩⟩
  have e : ns = (mem t).map fun m : Nat => ((m : Nat) : Int) := rise_eq hr (rise_nat (mem_rise t)) fun k => by
    rw [hm, decide_eq_true_eq, List.mem_map, List.mem_map]
    constructor
    · rintro ⟨m, h, rfl⟩; exact ⟨m, (mem_iff pre.1.1 m).mpr h, rfl⟩
    · rintro ⟨m, h, rfl⟩; exact ⟨m, (mem_iff pre.1.1 m).mp h, rfl⟩
  subst e
  have kn1 := kn.same s1
  have s2 := same_new (o := SetO w p (fun j => decide (j ∈ (lv t).map fun m : Nat => ((m : Nat) : Int))) n) hp
  refine q _ _ ((s1.trans s2).trans (same_new hp2)) (dp_newL (kn1.same s2) hp2 ?_)
  rw [nD_map]; exact ints_dpa _
theorem ok__law_stands (T : Txt K mg a fd C tk) : ∀ d, FnOk P w K mg base CX0 (d + 1) (a 49) (fd 49) ["_law_sketch", "_law_some"] (spStandsIn K d)
  | 0 => fn_none fun _ _ _ _ h => by
    obtain ⟨_, x, _, _, ⟨_, h⟩, _⟩ := h
    exact Nat.not_lt_zero _ h
  | d + 1 => by
    have G__law_stands := ok__law_stands T d
    refine T.F__law_stands.ok sc__law_stands (fun vs H Q E h => spP_len (fun _ => rfl) h) (fun cdv A outer s H vs Q E hr h => ?_)
    obtain ⟨S, ⟨t, c, ss⟩, kn, hd, ⟨sm, dp⟩, q⟩ := h
    replace q : ∀ v H', Same H H' → Dp K (off S H') v (.bool (st ss t)) → Q v H' := q
    replace sm : Sm t := sm
    replace dp : dep t < d + 1 := dp
    obtain - | ⟨hd, - | ⟨hs, ⟨⟩⟩⟩ := hd
    rename_i v vh
    replace hd : Dp K (off S H) v (tD t) := hd
    replace hs : Dp K (off S H) vh (sq c (ss.map nD)) := hs
    refine ⟨_, (pss_cons (ps_if (pt_not (pt_val (pe_callB (k_isi (K := K)) (by rfl) T.z_isinstance (by decide +kernel) (pa_cons (pv 0) (pa_cons (pe_bltn (v := .ty "tuple") (by rfl) T.z_tuple (by decide +kernel) rfl) pa_nil)))))
        (pss_one (ps_ret (pe_cmpR (k_in (K := K)) (pv 0) (pv 1) (by rfl)))) pss_nil)
      (pss_one (ps_ret (pe_cmpR op_ge (pe_callB (k_len (K := K)) (by rfl) T.z_len (by decide +kernel) (pa_cons (pe_lc (own := [("_law_part", 2)]) (g := gName 2) (tt := _) rfl sc__law_stands.nd (k_pi (K := K) (pe_ix (k_ix (K := K)) (pv 0) pe_int (fun _ _ => rfl))) (blkOk_by (own := [("_law_part", 2)]) (N := _law_stands_N) (sc := defScope _law_stands_s) (by decide +kernel)) (fun _ _ _ _ _ => (pg_name (i := 2) sc__law_stands.nd rfl (Or.inl rfl))) (fun _ _ _ _ _ => (pts_one (pt_val (pe_call G__law_stands (hr.mono (by omega)) (by rfl) T.m__law_stands T.F__law_stands.kp T.b__law_stands .nil pass0 (pa_cons (pv 2) (pa_cons (pv 1) pa_nil)))))) (fun _ _ _ _ _ => (pv 2))) pa_nil)) (pe_ix (k_ix (K := K)) (pv 0) pe_int (fun _ _ => rfl)) (nomark _))))), ?_⟩
    cases t with
    | leaf n =>
      rw [st_leaf] at q
      refine s_seq (s_if (b_not (b_val (t_cb2 (t_var rfl (t_c (isTup_leaf (σ := []) hd ⟨_, rfl, ifT rfl ?_⟩)))))))
      rw [tD_leaf] at hd
      cases hd
      refine s_ret (t_op (t_var rfl (t_var rfl (in_d (ns := ss.map fun m : Nat => ((m : Nat) : Int)) off_sub hs (by rw [items_sq, List.map_map]; rfl) (q _ _ (Same.refl _) (dp_bl ?_))))))
      exact decide_eq_decide.mpr mem_ints
    | gate b k ps =>
      rw [st_gate] at q
      refine s_seq (s_if (b_not (b_val (t_cb2 (t_var rfl (t_c (isTup_gate (σ := []) hd ⟨_, rfl, ifF rfl (s_next ?_)⟩)))))))
      rw [tD_gate] at hd
      refine s_ret (t_op (t_cb1 (lc_seqF (b := b) (ds := ps.map tD) (fun j => (ps[j]?).any (st ss)) (nth ps tD) kn (fun Q q => t_op (t_var rfl (t_c (ix_d (i := 2) off_sub hd rfl rfl fun u du => q u _ (Same.refl _) du)))) (len_ok sm) (fun _ => rfl) (fun j x d H2 S' dj s2 kn2 dx hS hoff Q q => ?_) (fun j x d H2 S' dj pj s2 kn2 dx hS hoff Q q => ?_) fun D H2 ys hD s2 hd2 h2 => ?_)))
      · obtain ⟨p, pj, pm, rfl⟩ := at_ps dj
        refine b_val (t_call2 (t_var rfl (t_var rfl ⟨S', (p, c, ss), kn2, .cons dx (.cons (dp_same hoff _ _ hs) .nil), ⟨sm.parts p pm, dep_lt dp p pm⟩, fun v H' s' h => ?_⟩)))
        replace h : Dp K (off S' H') v (.bool (st ss p)) := h
        cases h
        refine ⟨_, rfl, ?_⟩
        have e : (ps[j]?).any (st ss) = st ss p := by rw [pj]; rfl
        rw [← e]; exact q H' s'
      · obtain ⟨p, pj', pm, rfl⟩ := at_ps dj
        refine t_var rfl (q _ _ (Same.refl _) ?_)
        rw [nth_eq pj']; exact dx
      · rw [List.length_map, range_filter (p := st ss) (g := tD) fun i x e => ⟨by rw [e]; rfl, nth_eq e⟩] at h2
        refine len_d off_sub h2 rfl (t_op (t_var rfl (t_c (ix_d (i := 1) (off_sub.trans s2) hd rfl rfl fun u du => ?_))))
        cases du
        refine ⟨_, _, rfl, rfl, q _ _ s2 (dp_bl ?_)⟩
        rw [List.length_map]
        exact decide_eq_decide.mpr (by omega)
theorem ok__law_turned (T : Txt K mg a fd C tk) : ∀ d, FnOk P w K mg base CX0 (d + 1) (a 50) (fd 50) ["_law_sketch"] (spContrary K d)
  | 0 => fn_none fun _ _ _ _ => pre0
  | d + 1 => by
    have G__law_turned := ok__law_turned T d
    refine T.F__law_turned.ok sc__law_turned (fun vs H Q E h => spP_len (fun _ => rfl) h) (fun cdv A outer s H vs Q E hr h => ?_)
    obtain ⟨S, t, kn, hd, ⟨sm, dp⟩, q⟩ := h
    replace q : ∀ v H', Same H H' → Dp K (off S H') v (tD (con t)) → Q v H' := q
    obtain - | ⟨hd, ⟨⟩⟩ := hd
    rename_i v
    refine ⟨_, (pss_cons (ps_if (pt_not (pt_val (pe_callB (k_isi (K := K)) (by rfl) T.z_isinstance (by decide +kernel) (pa_cons (pv 0) (pa_cons (pe_bltn (v := .ty "tuple") (by rfl) T.z_tuple (by decide +kernel) rfl) pa_nil)))))
        (pss_one (ps_ret (pv 0))) pss_nil)
      (pss_one (ps_ret (pe_tup (pa_cons pe_str (pa_cons (pe_op op_sub (pe_op op_add (pe_callB (k_len (K := K)) (by rfl) T.z_len (by decide +kernel) (pa_cons (pe_ix (k_ix (K := K)) (pv 0) pe_int (fun _ _ => rfl)) pa_nil)) pe_int) (pe_ix (k_ix (K := K)) (pv 0) pe_int (fun _ _ => rfl))) (pa_cons (pe_lc (own := [("_law_part", 1)]) (g := gName 1) (tt := tYes) rfl sc__law_turned.nd (k_pi (K := K) (pe_ix (k_ix (K := K)) (pv 0) pe_int (fun _ _ => rfl))) (blkOk_by (own := [("_law_part", 1)]) (N := _law_turned_N) (sc := defScope _law_turned_s) (by decide +kernel)) (fun _ _ _ _ _ => (pg_name (i := 1) sc__law_turned.nd rfl (Or.inl rfl))) (fun _ _ _ _ _ => pts_nil) (fun _ _ _ _ _ => (pe_call G__law_turned (hr.mono (by omega)) (by rfl) T.m__law_turned T.F__law_turned.kp T.b__law_turned .nil pass0 (pa_cons (pv 1) pa_nil)))) pa_nil))))))), ?_⟩
    cases t with
    | leaf n =>
      rw [con_leaf] at q
      refine s_seq (s_if (b_not (b_val (t_cb2 (t_var rfl (t_c (isTup_leaf (σ := []) hd ⟨_, rfl, ifT rfl ?_⟩)))))))
      exact s_ret (t_var rfl (q _ H (Same.refl _) hd))
    | gate b k ps =>
      obtain ⟨k1, k2, _⟩ := (wf_gate b k ps).mp sm.1
      rw [con_gate, tD_gate] at q
      refine s_seq (s_if (b_not (b_val (t_cb2 (t_var rfl (t_c (isTup_gate (σ := []) hd ⟨_, rfl, ifF rfl (s_next ?_)⟩)))))))
      rw [tD_gate] at hd
      refine s_ret (t_tup (a_cons (t_c (a_cons (t_op (t_op (t_cb1 (t_op (t_var rfl (t_c (ix_d (i := 2) off_sub hd rfl rfl fun z dz => len_d off_sub dz (items_sq b _) (t_c ⟨_, _, rfl, rfl, ?_⟩)))))))))))) 
      refine t_op (t_var rfl (t_c (ix_d (i := 1) off_sub hd rfl rfl fun u du => ?_)))
      cases du
      refine ⟨_, _, rfl, rfl, a_cons (lc_seq (b := b) (ds := ps.map tD) (nth ps fun p => tD (con p)) kn (fun Q q => t_op (t_var rfl (t_c (ix_d (i := 2) off_sub hd rfl rfl fun u du => q u _ (Same.refl _) du)))) (len_ok sm) (fun _ => rfl) (fun j x d H2 S' dj s2 kn2 dx hS hoff Q q => ?_) fun D H2 ys hD s2 hd2 h2 => ?_)⟩
      · obtain ⟨p, pj, pm, rfl⟩ := at_ps dj
        refine t_call1 (t_var rfl ⟨S', p, kn2, .cons dx .nil, ⟨sm.parts p pm, dep_lt dp p pm⟩, fun v H' s' h => q v H' s' ?_⟩)
        rw [nth_eq pj]; exact h
      · rw [nth_map] at h2
        refine ⟨le3, fun p hp => q _ _ (s2.trans (same_new hp)) ?_⟩
        rw [List.map_map]
        refine dp_newT (kn.same s2) hp (.cons (.str _) (.cons (dp_int ?_) (.cons h2 .nil)))
        rw [List.length_map]; omega
end
end K31

set_option maxRecDepth 100000
set_option maxHeartbeats 1000000
/-! sorted of a list of data, the very list -/
namespace Kh
open PySem PySem.Spec PyProof.Rows L2
abbrev leD : PyData → PyData → Bool := PySem.W.dataLe false fun d : PyData => d
theorem leD_total : PySem.W.TotalLe leD := PySem.W.sortLe_total _ _ _
def rSortM (K : PySem.W.Frag) : List V → Hp → VK → Prop := fun vs H Q => ∃ (a : Addr) (xs : List V) (ds : List PyData), vs = [V.ref a] ∧ SqL K H a xs ∧ DpAll K H xs ds ∧ PySem.W.AllAlike ds ∧ PySem.W.Sortable ds ∧ (∀ d ∈ ds, d.depth ≤ 60) ∧
  ∀ (p : Addr) (bs : List (V × PyData)), H p = none → bs.Perm (xs.zip ds) → bs.map Prod.snd = ds.mergeSort leD → Q (.ref p) (upd H p (.lst (bs.map Prod.fst)))
theorem cr_sortM {X : Cx} (hu : X.A.units + 64 < cLine) : CallR X (.builtin "sorted") (rSortM X.K) := by
  intro pins s σ H vs us Q I r h
  obtain ⟨a, xs, ds, rfl, hs, hd, hal, hk, hdp, q⟩ := h
  obtain ⟨u, rfl, ru⟩ := r.one
  cases ru
  obtain ⟨its, rv, hl, hz⟩ := I.list hs
  have e := each_rel rv (dpa_len hd)
  have er : PySem.W.EachIs (fun (v : Value) (b : V × PyData) => ∃ as, Reads s.heap v b.2 as) its (xs.zip ds) := each_and e fun u b hb ru => Dp.reads I b.2 b.1 u (zip_mem_dp hd b hb) ru
  have hlen : (xs.zip ds).length = xs.length := by rw [List.length_zip, dpa_len hd]; omega
  refine PySem.W.sorted_data (enc := Prod.snd) hl.isList e er (by rw [zip_snd hd]; exact hal) (by rw [zip_snd hd]; exact hk) (by rw [hlen]; exact hz) (fun b hb => ?_) fun out ho eo => ?_
  · have hm : b.2 ∈ ds := by
      have h1 : b.2 ∈ (xs.zip ds).map Prod.snd := List.mem_map_of_mem hb
      rwa [zip_snd hd] at h1
    have := hdp _ hm
    omega
  · have hp := List.mergeSort_perm (xs.zip ds) (PySem.W.dataLe false Prod.snd)
    have hv := each_vals eo
    obtain ⟨n, hn⟩ := sortedAll_at s.heap its (List.toArray out)
    have hm : ((xs.zip ds).mergeSort (PySem.W.dataLe false Prod.snd)).map Prod.snd = ds.mergeSort leD := by
      exact (PySem.W.sort_maps (r := PySem.W.dataLe false Prod.snd) (s := leD) (Prod.snd : V × PyData → PyData) (fun _ _ _ _ => rfl)).trans (by rw [zip_snd hd])
    refine ⟨.ref (s.heap.objs.size + 1), upd H (s.heap.objs.size + 1) (.lst (((xs.zip ds).mergeSort (PySem.W.dataLe false Prod.snd)).map Prod.fst)), I.laid (t' := s.toks) (fun b o z => sortedAll_old z) (Nat.le_succ _) ⟨?_, out, n, hv, hn⟩, rfl, q _ _ (I.hok.fresh (Nat.le_succ _)) hp hm⟩
    rw [List.length_map, hp.length_eq, hlen]; exact hz
theorem k_sortM {X : Cx} {K : PySem.W.Frag} (hu : X.A.units + 64 < cLine) (h : X.K = K := by rfl) : CallR X (.builtin "sorted") (rSortM K) := by subst h; exact cr_sortM hu
theorem sort_m {α : Type} {K : PySem.W.Frag} {S : Addr → Prop} {H : Hp} {x : V} {ms : List α} {f : α → PyData} {le : α → α → Bool} {Q : VK} (hle : ∀ a ∈ ms, ∀ b ∈ ms, le a b = leD (f a) (f b)) (kn : Kn S H) (hx : Dp K (off S H) x (.list (ms.map f))) (hal : ∀ a ∈ ms, ∀ b ∈ ms, PySem.W.alike (f a) (f b) = true) (hk : PySem.W.Sortable (ms.map f)) (hdp : ∀ a ∈ ms, (f a).depth ≤ 60)
    (q : ∀ u H', Same H H' → Dp K (off S H') u (.list ((ms.mergeSort le).map f)) → Q u H') : rSortM K [x] H Q := by
  obtain ⟨l, xs, rfl, h1, d1⟩ := list_at hx
  refine ⟨l, xs, ms.map f, rfl, off_sub.seq h1, dpa_same off_sub _ _ d1, fun d hd d' hd' => ?_, hk, fun d hd => ?_, fun p bs hp pm em => ?_⟩
  · obtain ⟨a, ha, rfl⟩ := List.mem_map.mp hd
    obtain ⟨b, hb, rfl⟩ := List.mem_map.mp hd'
    exact hal a ha b hb
  · obtain ⟨a, ha, rfl⟩ := List.mem_map.mp hd
    exact hdp a ha
  have pe : bs.map Prod.snd = (ms.mergeSort le).map f := by
    rw [em]; exact (PySem.W.sort_maps f hle).symm
  refine q _ _ (same_new hp) (dp_newL kn hp ?_)
  rw [← pe]
  have go : ∀ cs : List (V × PyData), (∀ b ∈ cs, b ∈ xs.zip (ms.map f)) → DpAll K (off S H) (cs.map Prod.fst) (cs.map Prod.snd) := by
    intro cs
    induction cs with
    | nil => intro _; exact .nil
    | cons c cs ih => intro h; exact .cons (zip_mem_dp d1 c (h c List.mem_cons_self)) (ih fun b hb => h b (List.mem_cons_of_mem _ hb))
  exact go bs fun b hb => pm.mem_iff.mp hb
/-- lists in order with the same elements are one list -/
theorem order_one {α : Type} {le : α → α → Bool} (anti : ∀ a b, le a b = true → le b a = true → a = b) : ∀ {l m : List α}, l.Pairwise (fun a b => le a b = true) → m.Pairwise (fun a b => le a b = true) → l.Perm m → l = m
  | [], m, _, _, p => (List.nil_perm.mp p).symm
  | a :: l, [], _, _, p => (List.perm_nil.mp p)
  | a :: l, b :: m, h1, h2, p => by
    have h1' := List.pairwise_cons.mp h1
    have h2' := List.pairwise_cons.mp h2
    have e : a = b := by
      rcases List.mem_cons.mp (p.mem_iff.mp (List.mem_cons_self (a := a) (l := l))) with e | ha
      · exact e
      · rcases List.mem_cons.mp (p.mem_iff.mpr (List.mem_cons_self (a := b) (l := m))) with e | hb
        · exact e.symm
        · exact anti a b (h1'.1 b hb) (h2'.1 a ha)
    subst e
    rw [order_one anti h1'.2 h2'.2 (List.Perm.cons_inv p)]
theorem sort_perm {α : Type} {le : α → α → Bool} (t : PySem.W.TotalLe le) (anti : ∀ a b, le a b = true → le b a = true → a = b) {l m : List α} (p : l.Perm m) : l.mergeSort le = m.mergeSort le :=
  order_one anti (PySem.W.sort_pairwise t l) (PySem.W.sort_pairwise t m) (((List.mergeSort_perm l le).trans p).trans (List.mergeSort_perm m le).symm)
end Kh

set_option maxRecDepth 100000
set_option maxHeartbeats 1000000
/-! comprehensions and loops over what stands for a list of anything -/
namespace Kh
open PySem PySem.Spec PyProof.Rows L2
def pick {α β : Type} (ms : List α) (d : β) (g : α → β) (j : Nat) : β := match ms[j]? with | some m => g m | none => d
theorem pick_eq {α β : Type} {ms : List α} {d : β} {g : α → β} {j : Nat} {m : α} (h : ms[j]? = some m) : pick ms d g j = g m := by unfold pick; rw [h]
theorem at_map {α β : Type} {ms : List α} {f : α → β} {j : Nat} {d : β} (h : (ms.map f)[j]? = some d) : ∃ m, ms[j]? = some m ∧ m ∈ ms ∧ d = f m := by
  rw [List.getElem?_map] at h
  cases e : ms[j]? with
  | none => rw [e] at h; cases h
  | some m => rw [e] at h; exact ⟨m, rfl, List.mem_of_getElem? e, (Option.some.inj h).symm⟩
theorem lcM {α : Type} {K : PySem.W.Frag} {S : Addr → Prop} {H : Hp} {σ : L2.St} {t te : TE} {sl : Nat} {vs : List Nat} {Q : VK} (b : Bool) (ms : List α) (f g : α → PyData) (kn : Kn S H)
    (hev : ∀ Q : VK, (∀ u H1, Same H H1 → Dp K (off S H1) u (sq b (ms.map f)) → Q u H1) → t σ H Q) (hn : ms.length ≤ 100000) (hw : ∀ x, wipe ((wipe σ vs).set sl (some x)) vs = wipe σ vs)
    (body : ∀ m ∈ ms, ∀ x H1 S', Same H H1 → Kn S' H1 → Dp K (off S' H1) x (f m) → (∀ a, S a → S' a) → Same (off S H) (off S' H1) → ∀ Q : VK, (∀ y H', Same H1 H' → Dp K (off S' H') y (g m) → Q y H') → te ((wipe σ vs).set sl (some x)) H1 Q)
    (done : ∀ D H1 ys, H D = none → Same H H1 → H1 D = some (.lst ys) → Dp K (off S H1) (.ref D) (.list (ms.map g)) → Q (.ref D) H1) :
    tLc (fun σ H R => iList K t σ H R ∨ iTup K t σ H R) (gName sl) tYes te vs σ H Q := by
  refine lc_seq (b := b) (ds := ms.map f) (pick ms .none g) kn hev (by rw [List.length_map]; exact hn) hw (fun j x d H1 S' dj s1 kn1 dx hS ho Q q => ?_) fun D H1 ys hD s1 hd h => done D H1 ys hD s1 hd ?_
  · obtain ⟨m, hj, hm, rfl⟩ := at_map dj
    exact body m hm x H1 S' s1 kn1 dx hS ho Q fun y H' s' d' => q y H' s' (by rw [pick_eq hj]; exact d')
  · rw [List.length_map] at h
    rw [range_map (g := g) fun i x e => pick_eq e] at h
    exact h
theorem lcF {α : Type} {K : PySem.W.Frag} {S : Addr → Prop} {H : Hp} {σ : L2.St} {t te : TE} {tt : TT} {sl : Nat} {vs : List Nat} {Q : VK} (b : Bool) (ms : List α) (p : α → Bool) (f g : α → PyData) (kn : Kn S H)
    (hev : ∀ Q : VK, (∀ u H1, Same H H1 → Dp K (off S H1) u (sq b (ms.map f)) → Q u H1) → t σ H Q) (hn : ms.length ≤ 100000) (hw : ∀ x, wipe ((wipe σ vs).set sl (some x)) vs = wipe σ vs)
    (test : ∀ m ∈ ms, ∀ x H1 S', Same H H1 → Kn S' H1 → Dp K (off S' H1) x (f m) → (∀ a, S a → S' a) → Same (off S H) (off S' H1) → ∀ Q : Bool → Hp → Prop, (∀ H', Same H1 H' → Q (p m) H') → tt ((wipe σ vs).set sl (some x)) H1 Q)
    (body : ∀ m ∈ ms, p m = true → ∀ x H1 S', Same H H1 → Kn S' H1 → Dp K (off S' H1) x (f m) → (∀ a, S a → S' a) → Same (off S H) (off S' H1) → ∀ Q : VK, (∀ y H', Same H1 H' → Dp K (off S' H') y (g m) → Q y H') → te ((wipe σ vs).set sl (some x)) H1 Q)
    (done : ∀ D H1 ys, H D = none → Same H H1 → H1 D = some (.lst ys) → Dp K (off S H1) (.ref D) (.list ((ms.filter p).map g)) → Q (.ref D) H1) :
    tLc (fun σ H R => iList K t σ H R ∨ iTup K t σ H R) (gName sl) tt te vs σ H Q := by
  refine lc_seqF (b := b) (ds := ms.map f) (pick ms false p) (pick ms .none g) kn hev (by rw [List.length_map]; exact hn) hw (fun j x d H1 S' dj s1 kn1 dx hS ho Q q => ?_) (fun j x d H1 S' dj pj s1 kn1 dx hS ho Q q => ?_) fun D H1 ys hD s1 hd h => done D H1 ys hD s1 hd ?_
  · obtain ⟨m, hj, hm, rfl⟩ := at_map dj
    exact test m hm x H1 S' s1 kn1 dx hS ho Q fun H' s' => by have := q H' s'; rwa [pick_eq hj] at this
  · obtain ⟨m, hj, hm, rfl⟩ := at_map dj
    rw [pick_eq hj] at pj
    exact body m hm pj x H1 S' s1 kn1 dx hS ho Q fun y H' s' d' => q y H' s' (by rw [pick_eq hj]; exact d')
  · rw [List.length_map] at h
    rw [range_filter (p := p) (g := g) fun i x e => ⟨pick_eq e, pick_eq e⟩] at h
    exact h
theorem forM {α : Type} {K : PySem.W.Frag} {S : Addr → Prop} {H : Hp} {σ : L2.St} {t : TE} {g : TG} {tb : TS} {D : Ends} (b : Bool) (ms : List α) (f : α → PyData) (kn : Kn S H)
    (hev : ∀ Q : VK, (∀ u H1, Same H H1 → Dp K (off S H1) u (sq b (ms.map f)) → Q u H1) → t σ H Q)
    (step : ∀ H1, Same H H1 → Kn S H1 → ∃ Pv : Nat → L2.St → Hp → Prop, Pv 0 σ H1 ∧ (∀ i σ' H', Pv i σ' H' → Same (off S H1) H') ∧
      (∀ i m x σ' H', ms[i]? = some m → i < ms.length → m ∈ ms → Dp K (off S H1) x (f m) → Pv i σ' H' → g x σ' H' fun σ2 H2 => tb { D with nx := Pv (i + 1), ct := Pv (i + 1), bk := D.nx } σ2 H2) ∧ (∀ σ' H', Pv ms.length σ' H' → D.nx σ' H')) :
    tFor (fun σ H R => iList K t σ H R ∨ iTup K t σ H R) g tb D σ H := by
  refine s_for (b := b) (ds := ms.map f) kn hev fun xs H1 s1 kn1 ha hl => ?_
  obtain ⟨Pv, h0, h1, h2, h3⟩ := step H1 s1 kn1
  refine ⟨Pv, h0, fun i σ' H' _ h => h1 i σ' H' h, fun i x d σ' H' di dx h => ?_, fun σ' H' h => h3 σ' H' (by rwa [List.length_map] at h)⟩
  obtain ⟨m, hj, hm, rfl⟩ := at_map di
  exact h2 i m x σ' H' hj (List.getElem?_eq_some_iff.mp hj).1 hm dx h
theorem lc2M {α β : Type} {K : PySem.W.Frag} {S : Addr → Prop} {H : Hp} {σ : L2.St} {t t2 te : TE} {s1 s2 : Nat} {vs vs1 : List Nat} {Q : VK} (b b2 : Bool) (ms : List α) (f : α → PyData) (ins : α → List β) (f2 : β → PyData) (g : α → β → PyData) (kn : Kn S H)
    (hev : ∀ Q : VK, (∀ u H1, Same H H1 → Dp K (off S H1) u (sq b (ms.map f)) → Q u H1) → t σ H Q) (hn : (ms.flatMap ins).length ≤ 100000) (hw : ∀ x, wipe ((wipe σ vs).set s1 (some x)) vs = wipe σ vs)
    (hw1 : ∀ x y, wipe ((wipe ((wipe σ vs).set s1 (some x)) vs1).set s2 (some y)) vs1 = wipe ((wipe σ vs).set s1 (some x)) vs1)
    (inner : ∀ m ∈ ms, ∀ x H1 S', Same H H1 → Kn S' H1 → Dp K (off S' H1) x (f m) → (∀ a, S a → S' a) → Same (off S H) (off S' H1) → ∀ Q : VK, (∀ y H', Same H1 H' → Dp K (off S' H') y (sq b2 ((ins m).map f2)) → Q y H') → t2 ((wipe σ vs).set s1 (some x)) H1 Q)
    (body : ∀ m ∈ ms, ∀ n ∈ ins m, ∀ x y H1 S', Same H H1 → Kn S' H1 → Dp K (off S' H1) x (f m) → Dp K (off S' H1) y (f2 n) → (∀ a, S a → S' a) → Same (off S H) (off S' H1) → ∀ Q : VK, (∀ z H', Same H1 H' → Dp K (off S' H') z (g m n) → Q z H') → te ((wipe ((wipe σ vs).set s1 (some x)) vs1).set s2 (some y)) H1 Q)
    (done : ∀ D H1 ys, H D = none → Same H H1 → H1 D = some (.lst ys) → Dp K (off S H1) (.ref D) (.list (ms.flatMap fun m => (ins m).map (g m))) → Q (.ref D) H1) :
    tLc2 (fun σ H R => iList K t σ H R ∨ iTup K t σ H R) (gName s1) tYes (fun σ H R => iList K t2 σ H R ∨ iTup K t2 σ H R) (gName s2) tYes te vs vs1 σ H Q := by
  refine it_any hev fun J xs H1 s ha w D hD => ?_
  have ln := dpa_len ha
  rw [List.length_map] at ln
  have kn1 := kn.same s
  have tk : ∀ n, ((ms.take n).flatMap fun m => (ins m).map (g m)).length ≤ 100000 := fun n => by
    have e : (ms.flatMap fun m => (ins m).map (g m)).length = (ms.flatMap ins).length := by
      rw [List.length_flatMap, List.length_flatMap]; simp
    have h : (ms.flatMap fun m => (ins m).map (g m)).length = ((ms.take n).flatMap fun m => (ins m).map (g m)).length + ((ms.drop n).flatMap fun m => (ins m).map (g m)).length := by
      rw [← List.length_append, ← List.flatMap_append, List.take_append_drop]
    omega
  have step : ∀ n m, ms[n]? = some m → ((ms.take (n + 1)).flatMap fun m => (ins m).map (g m)) = ((ms.take n).flatMap fun m => (ins m).map (g m)) ++ (ins m).map (g m) := fun n m e => by
    rw [List.take_add_one, e, List.flatMap_append]; simp
  refine wlk w (fun x H' Nx => gName s1 x (wipe σ vs) H' _) (fun i H' => ∃ ys, DpAll K (off (plus S D) H') ys ((ms.take i).flatMap fun m => (ins m).map (g m)) ∧ Same H1 H' ∧ H' D = some (.lst ys)) ⟨[], .nil, same_new hD, upd_same⟩ (fun i H' _ ⟨_, _, z, _⟩ => off_sub.trans z) ?_ ?_
  · rintro i x H2 H3 hi ⟨ys, py, z, hd⟩ ⟨rfl, xi⟩
    obtain ⟨d, dj, dx⟩ := dpa_at ha xi
    obtain ⟨m, hj, hm, rfl⟩ := at_map dj
    refine ⟨hw x, t_yes ?_⟩
    have dx3 := dp_same (off_plus hD z) _ _ dx
    have off3 : Same (off S H) (off (plus S D) H3) := (off_same s).trans (off_plus hD z)
    refine it_any (b := b2) (S := plus S D) (ds := (ins m).map f2) (fun Q q => inner m hm x H3 (plus S D) (s.trans z) ((kn1.same z).plus (some_ne hd)) dx3 (fun _ h => .inl h) off3 Q q) fun J1 zs H4 s4 hz w1 => ?_
    have lz := dpa_len hz
    rw [List.length_map] at lz
    have kn4 : Kn (plus S D) H4 := ((kn1.same z).plus (some_ne hd)).same s4
    refine wlk w1 (fun y H' Nx => gName s2 y (wipe ((wipe σ vs).set s1 (some x)) vs1) H' fun σ3 H5 => wipe σ3 vs1 = wipe ((wipe σ vs).set s1 (some x)) vs1 ∧ tYes σ3 H5 fun b H6 => if b = true then te σ3 H6 fun y H7 => ∃ acc, H7 D = some (.lst acc) ∧ acc.length < sizeLine ∧ Nx (upd H7 D (.lst (acc ++ [y]))) else Nx H6) (fun j H' => ∃ ys', DpAll K (off (plus S D) H') ys' (((ms.take i).flatMap fun m => (ins m).map (g m)) ++ ((ins m).map (g m)).take j) ∧ SameBut D H4 H' ∧ H' D = some (.lst ys')) ⟨ys, by simpa using dpa_same (off_same s4) _ _ py, sbut (Same.refl _), s4 _ _ hd⟩ (fun j H' _ ⟨_, _, z', _⟩ => fun c o h => z' c o (fun e => (off_some h).1 (.inr e)) (off_some h).2) ?_ fun H5 h5 => ?_
    · rintro j y H5 H6 hjz ⟨ys', py', z', hd'⟩ ⟨rfl, yj⟩
      obtain ⟨e, ej, de⟩ := dpa_at hz yj
      obtain ⟨n, nj, hn', rfl⟩ := at_map ej
      refine ⟨hw1 x y, t_yes ?_⟩
      have hl : ys'.length ≤ 100000 := by
        have h1 := dpa_len py'
        have h2 := tk (i + 1)
        rw [step i m hj, List.length_append] at h2
        rw [h1, List.length_append, List.length_take]
        omega
      have sH6 : Same H H6 := fun b o h => by
        have h1 : H1 b = some o := s b o h
        exact z' b o (ne_of_none h1 hD) (s4 b o (z b o h1))
      have k6 : Kn (plus S D) H6 := fun b hb => by
        by_cases e : b = D
        · subst e; exact some_ne hd'
        · cases hq : H4 b with
          | none => exact (kn4 b hb hq).elim
          | some o => exact some_ne (z' b o e hq)
      have ob6 : Same (off (plus S D) H4) (off (plus S D) H6) := off_but z'
      refine body m hm n hn' x y H6 (plus S D) sH6 k6 (dp_same ((off_same s4).trans ob6) _ _ dx3) (dp_same ob6 _ _ de) (fun _ h => .inl h) ((off3.trans (off_same s4)).trans ob6) _ fun u H7 s7 d7 => ?_
      refine ⟨ys', s7 _ _ hd', Nat.lt_of_le_of_lt hl (by decide), ys' ++ [u], ?_, bmut fun b o n h => s7 b o (z' b o n h), upd_same⟩
      rw [off_mut (show plus S D D from .inr rfl), List.take_add_one, List.getElem?_map, nj, ← List.append_assoc]
      exact dpa_app (dpa_same (off_same s7) _ _ py') (.cons d7 .nil)
    · obtain ⟨ys', py', z', hd'⟩ := h5
      refine ⟨ys', ?_, ?_, hd'⟩
      · rw [step i m hj]
        rwa [List.take_of_length_le (show ((ins m).map (g m)).length ≤ zs.length by rw [List.length_map]; omega)] at py'
      · intro c o h
        exact z' c o (ne_of_none h hD) (s4 c o (z c o h))
  · rintro H2 ⟨ys, py, z, hd⟩
    refine done D H2 ys (s.free hD) (s.trans z) hd (dp_lst (kn1.new hD) hd ?_)
    rw [ln, List.take_length] at py
    exact dpa_same (off_fin (D := D)) _ _ py
end Kh

namespace K31
open Kh
/-! all lists of some, those that barely stand -/
theorem snoc_ind {α : Type} {P : List α → Prop} (h0 : P []) (h1 : ∀ l a, P l → P (l ++ [a])) (l : List α) : P l := by
  have go : ∀ r : List α, P r.reverse := fun r => by
    induction r with
    | nil => exact h0
    | cons a r ih => rw [List.reverse_cons]; exact h1 _ _ ih
  have := go l.reverse
  rwa [List.reverse_reverse] at this
def lists (ns : List Nat) : List (List Nat) := ns.foldl (fun f n => f ++ f.map (· ++ [n])) [[]]
theorem lists_nil : lists [] = [[]] := rfl
theorem lists_snoc (ns : List Nat) (n : Nat) : lists (ns ++ [n]) = lists ns ++ (lists ns).map (· ++ [n]) := by
  unfold lists; rw [List.foldl_append]; rfl
theorem lists_mem (ns : List Nat) : ∀ m, m ∈ lists ns ↔ m.Sublist ns := by
  refine snoc_ind (P := fun ns => ∀ m, m ∈ lists ns ↔ m.Sublist ns) ?_ ?_ ns
  · intro m; rw [lists_nil, List.mem_singleton, List.sublist_nil]
  · intro l a ih m
    rw [lists_snoc, List.mem_append, ih, List.mem_map, List.sublist_append_iff]
    constructor
    · rintro (h | ⟨x, hx, rfl⟩)
      · exact ⟨m, [], by simp, h, List.nil_sublist _⟩
      · exact ⟨x, [a], rfl, (ih x).mp hx, List.Sublist.refl _⟩
    · rintro ⟨x, y, rfl, hx, hy⟩
      cases hy with
      | cons _ h => rw [List.sublist_nil.mp h, List.append_nil]; exact .inl hx
      | cons_cons _ h => rw [List.sublist_nil.mp h]; exact .inr ⟨x, (ih x).mpr hx, rfl⟩
theorem lists_len (ns : List Nat) : (lists ns).length = 2 ^ ns.length := by
  refine snoc_ind (P := fun ns => (lists ns).length = 2 ^ ns.length) rfl (fun l a ih => ?_) ns
  rw [lists_snoc, List.length_append, List.length_map, ih, List.length_append, List.length_singleton, Nat.pow_succ]; omega
theorem lists_nodup (ns : List Nat) : ns.Nodup → (lists ns).Nodup := by
  refine snoc_ind (P := fun ns => ns.Nodup → (lists ns).Nodup) (fun _ => by rw [lists_nil]; simp) (fun l a ih h => ?_) ns
  have h' := List.nodup_append.mp h
  rw [lists_snoc]
  refine List.nodup_append.mpr ⟨ih h'.1, List.pairwise_map.mpr ((ih h'.1).imp fun {x y} n e => n (List.append_cancel_right e)), fun x hx y hy e => ?_⟩
  obtain ⟨z, hz, rfl⟩ := List.mem_map.mp hy
  subst e
  have := ((lists_mem l _).mp hx).subset (List.mem_append_right _ (List.mem_singleton.mpr rfl))
  exact h'.2.2 a this a (List.mem_singleton.mpr rfl) rfl
theorem sub_nodup {m ns : List Nat} (h : m.Sublist ns) (n : ns.Nodup) : m.Nodup := h.nodup n
/-- standing hangs on the set alone -/
theorem cnt_mono {ps : List Kh.T} {p q : Kh.T → Bool} (h : ∀ t ∈ ps, p t = true → q t = true) : (ps.filter p).length ≤ (ps.filter q).length := by
  induction ps with
  | nil => exact Nat.le_refl _
  | cons t ps ih =>
    have := ih fun u hu => h u (List.mem_cons_of_mem _ hu)
    have ht := h t List.mem_cons_self
    rw [List.filter_cons, List.filter_cons]
    cases hp : p t with
    | true => rw [ht hp]; simp only [if_true, List.length_cons]; omega
    | false =>
      cases q t <;> simp only [if_true, Bool.false_eq_true, if_false, List.length_cons] <;> omega
theorem st_mono : ∀ (t : Kh.T) (s s' : List Nat), (∀ n ∈ lv t, n ∈ s → n ∈ s') → st s t = true → st s' t = true := Kh.T.ind
  (fun n s s' h e => by
    rw [st_leaf] at *
    exact decide_eq_true (h n (by rw [lv_leaf]; exact List.mem_singleton.mpr rfl) (of_decide_eq_true e)))
  fun b k ps ih s s' h e => by
    rw [st_gate] at *
    refine decide_eq_true (Nat.le_trans (of_decide_eq_true e) (cnt_mono fun t ht => ih t ht s s' fun n hn => h n ?_))
    rw [lv_gate]; exact List.mem_flatMap.mpr ⟨t, ht, hn⟩
theorem st_same {t : Kh.T} {s s' : List Nat} (h : ∀ n ∈ lv t, n ∈ s ↔ n ∈ s') : st s t = st s' t := by
  cases e : st s' t with
  | true => exact st_mono t s' s (fun n hn => (h n hn).mpr) e
  | false =>
    cases e' : st s t with
    | false => rfl
    | true => rw [st_mono t s s' (fun n hn => (h n hn).mp) e'] at e; cases e
/-- a set without one -/
def less (m : List Nat) (h : Nat) : List Nat := m.filter fun n => decide (n ≠ h)
theorem less_mem {m : List Nat} {h n : Nat} : n ∈ less m h ↔ n ∈ m ∧ n ≠ h := by
  unfold less; rw [List.mem_filter, decide_eq_true_iff]
def barely (t : Kh.T) (m : List Nat) : Bool := st m t && !(m.map fun h => st (less m h) t).any id
theorem barely_iff {t : Kh.T} {m : List Nat} : barely t m = true ↔ st m t = true ∧ ∀ h ∈ m, st (less m h) t = false := by
  unfold barely
  rw [Bool.and_eq_true, Bool.not_eq_true', List.any_eq_false]
  refine and_congr Iff.rfl ⟨fun h n hn => ?_, fun h b hb => ?_⟩
  · have := h _ (List.mem_map.mpr ⟨n, hn, rfl⟩)
    simpa using this
  · obtain ⟨n, hn, rfl⟩ := List.mem_map.mp hb
    simp [h n hn]
theorem barely_same {t : Kh.T} {m l : List Nat} (h : ∀ n, n ∈ m ↔ n ∈ l) : barely t m = barely t l := by
  have go : ∀ {m l : List Nat}, (∀ n, n ∈ m ↔ n ∈ l) → barely t m = true → barely t l = true := fun {m l} h e => by
    obtain ⟨e1, e2⟩ := barely_iff.mp e
    refine barely_iff.mpr ⟨by rw [← e1]; exact st_same fun n _ => (h n).symm, fun n hn => ?_⟩
    rw [← e2 n ((h n).mpr hn)]
    exact st_same fun k _ => by rw [less_mem, less_mem, h]
  cases e : barely t l with
  | true => exact go (fun n => (h n).symm) e
  | false =>
    cases e' : barely t m with
    | false => rfl
    | true => rw [go h e'] at e; cases e
/-- what stands has some that barely stands within -/
theorem barely_in {t : Kh.T} : ∀ (k : Nat) (m : List Nat), m.length ≤ k → st m t = true → ∃ l, l.Sublist m ∧ barely t l = true
  | 0, m, hk, h => ⟨m, List.Sublist.refl _, barely_iff.mpr ⟨h, fun n hn => by rw [List.eq_nil_of_length_eq_zero (Nat.le_zero.mp hk)] at hn; cases hn⟩⟩
  | k + 1, m, hk, h => by
    by_cases hb : barely t m = true
    · exact ⟨m, List.Sublist.refl _, hb⟩
    · have : ∃ n ∈ m, st (less m n) t = true := by
        refine Classical.byContradiction fun hc => hb (barely_iff.mpr ⟨h, fun n hn => ?_⟩)
        cases e : st (less m n) t with
        | false => rfl
        | true => exact (hc ⟨n, hn, e⟩).elim
      obtain ⟨n, hn, e⟩ := this
      have hs : (less m n).Sublist m := List.filter_sublist
      have hl : (less m n).length < m.length := by
        refine Nat.lt_of_le_of_ne hs.length_le fun z => ?_
        have := hs.eq_of_length z
        have hn' : n ∈ less m n := by rw [this]; exact hn
        exact (less_mem.mp hn').2 rfl
      obtain ⟨l, hl1, hl2⟩ := barely_in k (less m n) (by omega) e
      exact ⟨l, hl1.trans hs, hl2⟩
/-- the law's own meetings -/
def lawStep (t : Kh.T) (f : List (List Nat)) (m : List Nat) : List (List Nat) := if st m t = true ∧ (f.filter fun l => (l.map fun n => decide (n ∈ m)).all id) = [] then f ++ [m] else f
theorem rise_sub : ∀ (l m : List Nat), l.Pairwise (· < ·) → m.Pairwise (· < ·) → (∀ n, n ∈ l → n ∈ m) → l.Sublist m := by
  intro l m
  induction m generalizing l with
  | nil =>
    intro _ _ h
    cases l with
    | nil => exact List.Sublist.refl _
    | cons a l => cases h a List.mem_cons_self
  | cons b m ih =>
    intro p1 p2 h
    cases l with
    | nil => exact List.nil_sublist _
    | cons a l =>
      have p1' := List.pairwise_cons.mp p1
      have p2' := List.pairwise_cons.mp p2
      by_cases e : a = b
      · subst e
        refine (ih l p1'.2 p2'.2 fun n hn => ?_).cons_cons _
        rcases List.mem_cons.mp (h n (List.mem_cons_of_mem _ hn)) with e | e
        · subst e; exact (Nat.lt_irrefl _ (p1'.1 _ hn)).elim
        · exact e
      · refine (ih (a :: l) p1 p2'.2 fun n hn => ?_).cons b
        rcases List.mem_cons.mp (h n hn) with e' | e'
        · subst e'
          rcases List.mem_cons.mp hn with e2 | e2
          · exact (e e2.symm).elim
          · have q := p1'.1 _ e2
            rcases List.mem_cons.mp (h a List.mem_cons_self) with e3 | e3
            · exact (e e3).elim
            · have := p2'.1 _ e3; omega
        · exact e'
theorem sub_set {l m ns : List Nat} (nd : ns.Pairwise (· < ·)) (h1 : l.Sublist ns) (h2 : m.Sublist ns) (h : ∀ n, n ∈ l → n ∈ m) : l.Sublist m := rise_sub l m (nd.sublist h1) (nd.sublist h2) h
theorem law_meets {t : Kh.T} {ns : List Nat} (nd : ns.Pairwise (· < ·)) : ∀ (L : List (List Nat)), (∀ m ∈ L, m.Sublist ns) → (∀ m, m.Sublist ns → m ∈ L) → L.Nodup → L.Pairwise (fun a b => a.length ≤ b.length) → L.foldl (lawStep t) [] = L.filter (barely t) := by
  intro L hs hall hn hp
  have go : ∀ (R : List (List Nat)) (Q : List (List Nat)), L = Q ++ R → R.foldl (lawStep t) (Q.filter (barely t)) = L.filter (barely t) := by
    intro R
    induction R with
    | nil => intro Q e; rw [e, List.append_nil]; rfl
    | cons m R ih =>
      intro Q e
      have step : lawStep t (Q.filter (barely t)) m = (Q ++ [m]).filter (barely t) := by
        unfold lawStep
        have hm : m.Sublist ns := hs m (by rw [e]; simp)
        have pw := List.pairwise_append.mp (by rw [e] at hp; exact hp)
        have nw := List.nodup_append.mp (by rw [e] at hn; exact hn)
        rw [List.filter_append]
        cases hb : barely t m with
        | true =>
          obtain ⟨b1, b2⟩ := barely_iff.mp hb
          rw [if_pos, List.filter_cons_of_pos hb]; rfl
          refine ⟨b1, List.filter_eq_nil_iff.mpr fun l hl hc => ?_⟩
          obtain ⟨hq, hl⟩ := List.mem_filter.mp hl
          have sub : ∀ n ∈ l, n ∈ m := fun n hn => by
            have := List.all_eq_true.mp hc _ (List.mem_map.mpr ⟨n, hn, rfl⟩)
            exact of_decide_eq_true this
          by_cases same : ∀ n ∈ m, n ∈ l
          · have s1 := sub_set nd (hs l (by rw [e]; simp [hq])) hm sub
            have s2 := sub_set nd hm (hs l (by rw [e]; simp [hq])) same
            exact nw.2.2 l hq m List.mem_cons_self (s1.eq_of_length_le s2.length_le)
          · have : ∃ n, n ∈ m ∧ n ∉ l := Classical.byContradiction fun hc => same fun n hn => Classical.byContradiction fun h => hc ⟨n, hn, h⟩
            obtain ⟨n, hn, hnl⟩ := this
            have h1 := b2 n hn
            rw [st_mono t l (less m n) (fun k _ hk => less_mem.mpr ⟨sub k hk, fun z => hnl (z ▸ hk)⟩) (barely_iff.mp hl).1] at h1
            cases h1
        | false =>
          rw [if_neg, List.filter_cons_of_neg (by rw [hb]; exact Bool.false_ne_true), List.filter_nil, List.append_nil]
          rintro ⟨h1, h2⟩
          have : ∃ n ∈ m, st (less m n) t = true := by
            refine Classical.byContradiction fun hc => ?_
            rw [barely_iff.mpr ⟨h1, fun n hn => ?_⟩] at hb
            · cases hb
            · cases e : st (less m n) t with
              | false => rfl
              | true => exact (hc ⟨n, hn, e⟩).elim
          obtain ⟨n, hn, hst⟩ := this
          obtain ⟨l, hl, hlb⟩ := barely_in _ _ (Nat.le_refl _) hst
          have lm : (less m n).Sublist m := List.filter_sublist
          have lt : l.length < m.length := by
            refine Nat.lt_of_le_of_ne (hl.trans lm).length_le fun z => ?_
            have := (hl.trans lm).eq_of_length z
            have hn' : n ∈ l := by rw [this]; exact hn
            exact (less_mem.mp (hl.subset hn')).2 rfl
          have lQ : l ∈ Q := by
            have lL : l ∈ L := hall l ((hl.trans lm).trans hm)
            rw [e] at lL
            rcases List.mem_append.mp lL with h | h
            · exact h
            · rcases List.mem_cons.mp h with h | h
              · subst h; omega
              · have := (List.pairwise_cons.mp pw.2.1).1 l h; omega
          have hnil := List.filter_eq_nil_iff.mp h2 l (List.mem_filter.mpr ⟨lQ, hlb⟩)
          refine hnil (List.all_eq_true.mpr fun b hb' => ?_)
          obtain ⟨k, hk, rfl⟩ := List.mem_map.mp hb'
          exact decide_eq_true (lm.subset (hl.subset hk))
      rw [List.foldl_cons, step]
      exact ih (Q ++ [m]) (by rw [e, List.append_assoc]; rfl)
  have := go L [] rfl
  simpa using this
end K31

namespace K31
open Kh
/-! meetings of plain trees -/
def unions : List (List (List Nat)) → Nat → List (List Nat)
  | _, 0 => [[]]
  | [], _ + 1 => []
  | c :: cs, k + 1 => c.flatMap (fun x => (unions cs k).map (x ++ ·)) ++ unions cs (k + 1)
theorem unions_zero (cs : List (List (List Nat))) : unions cs 0 = [[]] := by cases cs <;> rfl
theorem unions_none : ∀ (cs : List (List (List Nat))) (k : Nat), cs.length < k → unions cs k = []
  | _, 0, h => by omega
  | [], _ + 1, _ => rfl
  | c :: cs, k + 1, h => by
    rw [List.length_cons] at h
    rw [unions, unions_none cs k (by omega), unions_none cs (k + 1) (by omega)]
    simp
mutual
def pm : Kh.T → List (List Nat)
  | .leaf n => [[n]]
  | .gate _ k ps => unions (pms ps) k
def pms : List Kh.T → List (List (List Nat))
  | [] => []
  | p :: ps => pm p :: pms ps
end
theorem pms_map : ∀ ps : List Kh.T, pms ps = ps.map pm
  | [] => by simp [pms]
  | p :: ps => by simp [pms, pms_map ps]
theorem pm_leaf (n : Nat) : pm (.leaf n) = [[n]] := by rw [pm]
theorem pm_gate (b : Bool) (k : Nat) (ps : List Kh.T) : pm (.gate b k ps) = unions (ps.map pm) k := by rw [pm, pms_map]
structure Rep (ls : List (List Nat)) (vs : List Nat) (Pr : List Nat → Prop) : Prop where
  sound : ∀ x ∈ ls, x.Nodup ∧ (∀ n ∈ x, n ∈ vs) ∧ Pr x
  whole : ∀ m, (∀ n ∈ m, n ∈ vs) → Pr m → ∃ x ∈ ls, ∀ n, n ∈ x ↔ n ∈ m
  one : ls.Pairwise (fun x y => ¬ ∀ n, n ∈ x ↔ n ∈ y)
def cnt (x : List Nat) (ps : List Kh.T) : Nat := (ps.filter (st x)).length
theorem cnt_cons (x : List Nat) (p : Kh.T) (ps : List Kh.T) : cnt x (p :: ps) = (if st x p = true then 1 else 0) + cnt x ps := by
  unfold cnt; rw [List.filter_cons]
  cases st x p <;> simp [Nat.add_comm]
theorem cnt_same {x y : List Nat} : ∀ {ps : List Kh.T}, (∀ n ∈ ps.flatMap lv, n ∈ x ↔ n ∈ y) → cnt x ps = cnt y ps
  | [], _ => rfl
  | p :: ps, h => by
    rw [List.flatMap_cons] at h
    rw [cnt_cons, cnt_cons, cnt_same (ps := ps) fun n hn => h n (List.mem_append_right _ hn), st_same (t := p) fun n hn => h n (List.mem_append_left _ hn)]
def bar (ps : List Kh.T) (k : Nat) (x : List Nat) : Prop := cnt x ps = k ∧ ∀ p ∈ ps, ∀ h ∈ x, h ∈ lv p → st x p = true ∧ st (less x h) p = false
theorem st_nil : ∀ t : Kh.T, Wf t → st [] t = false := Kh.T.ind (fun n _ => by rw [st_leaf]; rfl) fun b k ps ih h => by
  rw [wf_gate] at h
  rw [st_gate]
  have : ps.filter (st []) = [] := List.filter_eq_nil_iff.mpr fun p hp => by rw [ih p hp (h.2.2 p hp)]; exact Bool.false_ne_true
  rw [this]
  exact decide_eq_false (by simp; omega)
theorem cnt_nil {ps : List Kh.T} (h : ∀ p ∈ ps, Wf p) : cnt [] ps = 0 := by
  unfold cnt
  rw [List.filter_eq_nil_iff.mpr fun p hp => by rw [st_nil p (h p hp)]; exact Bool.false_ne_true]; rfl
theorem rep_unions : ∀ (ps : List Kh.T) (k : Nat), (ps.flatMap lv).Nodup → (∀ p ∈ ps, Wf p) → (∀ p ∈ ps, Rep (pm p) (lv p) fun m => barely p m = true) → Rep (unions (ps.map pm) k) (ps.flatMap lv) (bar ps k)
  | ps, 0, nd, wf, ih => by
    rw [unions_zero]
    have c0 := cnt_nil wf
    refine ⟨fun x hx => ?_, fun m hm hb => ?_, List.pairwise_singleton _ _⟩
    · rw [List.mem_singleton.mp hx]
      exact ⟨List.nodup_nil, fun n hn => (nomatch hn), c0, fun p _ h hh => (nomatch hh)⟩
    · refine ⟨[], List.mem_singleton.mpr rfl, fun n => ⟨fun h => (nomatch h), fun hn => ?_⟩⟩
      obtain ⟨p, hp, hnp⟩ := List.mem_flatMap.mp (hm n hn)
      have s := (hb.2 p hp n hn hnp).1
      have : p ∈ ps.filter (st m) := List.mem_filter.mpr ⟨hp, s⟩
      rw [List.eq_nil_of_length_eq_zero hb.1] at this
      cases this
  | [], k + 1, nd, wf, ih => by
    refine ⟨fun x hx => (nomatch hx), fun m _ hb => ?_, .nil⟩
    have := hb.1
    simp [cnt] at this
  | p :: ps, k + 1, nd, wf, ih => by
    rw [List.flatMap_cons] at nd
    obtain ⟨n1, n2, n3⟩ := List.nodup_append.mp nd
    have wf' : ∀ q ∈ ps, Wf q := fun q hq => wf q (List.mem_cons_of_mem _ hq)
    have ih' : ∀ q ∈ ps, Rep (pm q) (lv q) fun m => barely q m = true := fun q hq => ih q (List.mem_cons_of_mem _ hq)
    have r1 := rep_unions ps k n2 wf' ih'
    have r2 := rep_unions ps (k + 1) n2 wf' ih'
    have rp := ih p List.mem_cons_self
    have off1 : ∀ {n}, n ∈ lv p → n ∉ ps.flatMap lv := fun h1 h2 => n3 _ h1 _ h2 rfl
    rw [List.map_cons, unions, List.flatMap_cons]
    have memX : ∀ x, x ∈ (pm p).flatMap (fun x => (unions (ps.map pm) k).map (x ++ ·)) ↔ ∃ a ∈ pm p, ∃ b ∈ unions (ps.map pm) k, x = a ++ b := fun x => by
      rw [List.mem_flatMap]
      refine exists_congr fun a => and_congr Iff.rfl ?_
      rw [List.mem_map]
      exact exists_congr fun b => and_congr Iff.rfl eq_comm
    refine ⟨fun x hx => ?_, fun m hm hb => ?_, ?_⟩
    · rcases List.mem_append.mp hx with hx | hx
      · obtain ⟨a, ha, b, hb, rfl⟩ := (memX x).mp hx
        obtain ⟨a1, a2, a3⟩ := rp.sound a ha
        obtain ⟨b1, b2, b3⟩ := r1.sound b hb
        have sp : ∀ n, n ∈ lv p → (n ∈ a ++ b ↔ n ∈ a) := fun n hn => by
          rw [List.mem_append]; exact ⟨fun h => h.elim id fun h => (off1 hn (b2 n h)).elim, .inl⟩
        have sr : ∀ n, n ∈ ps.flatMap lv → (n ∈ a ++ b ↔ n ∈ b) := fun n hn => by
          rw [List.mem_append]; exact ⟨fun h => h.elim (fun h => (off1 (a2 n h) hn).elim) id, .inr⟩
        obtain ⟨c1, c2⟩ := barely_iff.mp a3
        have e1 : st (a ++ b) p = true := by rw [st_same (sp)]; exact c1
        refine ⟨List.nodup_append.mpr ⟨a1, b1, fun n hn n' hn' e => off1 (a2 n hn) (e ▸ b2 n' hn')⟩, fun n hn => ?_, ?_, ?_⟩
        · rcases List.mem_append.mp hn with h | h
          · exact List.mem_append_left _ (a2 n h)
          · exact List.mem_append_right _ (b2 n h)
        · rw [cnt_cons, if_pos e1, cnt_same sr, b3.1]; omega
        · intro q hq h hh hq'
          rcases List.mem_cons.mp hq with rfl | hq
          · refine ⟨e1, ?_⟩
            have ha' : h ∈ a := (sp h hq').mp hh
            rw [← c2 h ha']
            exact st_same fun n hn => by rw [less_mem, less_mem, sp n hn]
          · have hr : ∀ n ∈ lv q, n ∈ ps.flatMap lv := fun n hn => List.mem_flatMap.mpr ⟨q, hq, hn⟩
            have hb' : h ∈ b := (sr h (hr h hq')).mp hh
            obtain ⟨d1, d2⟩ := b3.2 q hq h hb' hq'
            refine ⟨by rw [← d1]; exact st_same fun n hn => sr n (hr n hn), ?_⟩
            rw [← d2]
            exact st_same fun n hn => by rw [less_mem, less_mem, sr n (hr n hn)]
      · obtain ⟨b1, b2, b3⟩ := r2.sound x hx
        have e1 : st x p = false := by
          rw [← st_nil p (wf p List.mem_cons_self)]
          exact st_same fun n hn => ⟨fun h => (off1 hn (b2 n h)).elim, fun h => (nomatch h)⟩
        refine ⟨b1, fun n hn => List.mem_append_right _ (b2 n hn), ?_, ?_⟩
        · rw [cnt_cons, if_neg (by rw [e1]; exact Bool.false_ne_true), b3.1]; omega
        · intro q hq h hh hq'
          rcases List.mem_cons.mp hq with rfl | hq
          · exact (off1 hq' (b2 h hh)).elim
          · exact b3.2 q hq h hh hq'
    · -- split m
      have f1 : ∀ n, n ∈ lv p → (n ∈ m ↔ n ∈ m.filter fun n => decide (n ∈ lv p)) := fun n hn => by
        rw [List.mem_filter, decide_eq_true_iff]; exact ⟨fun h => ⟨h, hn⟩, fun h => h.1⟩
      have f2 : ∀ n, n ∈ ps.flatMap lv → (n ∈ m ↔ n ∈ m.filter fun n => decide (n ∈ ps.flatMap lv)) := fun n hn => by
        rw [List.mem_filter, decide_eq_true_iff]; exact ⟨fun h => ⟨h, hn⟩, fun h => h.1⟩
      have bR : ∀ j, cnt m ps = j → bar ps j (m.filter fun n => decide (n ∈ ps.flatMap lv)) := fun j e => by
        refine ⟨by rw [← e]; exact cnt_same fun n hn => (f2 n hn).symm, fun q hq h hh hq' => ?_⟩
        have hr : ∀ n ∈ lv q, n ∈ ps.flatMap lv := fun n hn => List.mem_flatMap.mpr ⟨q, hq, hn⟩
        obtain ⟨d1, d2⟩ := hb.2 q (List.mem_cons_of_mem _ hq) h (List.mem_filter.mp hh).1 hq'
        refine ⟨by rw [← d1]; exact st_same fun n hn => (f2 n (hr n hn)).symm, ?_⟩
        rw [← d2]
        exact st_same fun n hn => by rw [less_mem, less_mem, f2 n (hr n hn)]
      have inR : ∀ n ∈ m.filter (fun n => decide (n ∈ ps.flatMap lv)), n ∈ ps.flatMap lv := fun n hn => of_decide_eq_true (List.mem_filter.mp hn).2
      have hc := hb.1
      rw [cnt_cons] at hc
      cases e : st m p with
      | true =>
        rw [e, if_pos rfl] at hc
        obtain ⟨b, hb1, hb2⟩ := r1.whole _ inR (bR k (by omega))
        have bl : barely p (m.filter fun n => decide (n ∈ lv p)) = true := barely_iff.mpr ⟨by rw [← e]; exact st_same fun n hn => (f1 n hn).symm, fun h hh => by
          obtain ⟨h1, h2⟩ := List.mem_filter.mp hh
          rw [← (hb.2 p List.mem_cons_self h h1 (of_decide_eq_true h2)).2]
          exact st_same fun n hn => by rw [less_mem, less_mem, f1 n hn]⟩
        obtain ⟨a, ha1, ha2⟩ := rp.whole _ (fun n hn => of_decide_eq_true (List.mem_filter.mp hn).2) bl
        refine ⟨a ++ b, List.mem_append_left _ ((memX _).mpr ⟨a, ha1, b, hb1, rfl⟩), fun n => ?_⟩
        rw [List.mem_append, ha2, hb2, List.mem_filter, List.mem_filter, decide_eq_true_iff, decide_eq_true_iff]
        refine ⟨fun h => h.elim (·.1) (·.1), fun h => ?_⟩
        rcases List.mem_append.mp (hm n h) with h' | h'
        · exact .inl ⟨h, h'⟩
        · exact .inr ⟨h, h'⟩
      | false =>
        rw [e, if_neg Bool.false_ne_true, Nat.zero_add] at hc
        obtain ⟨b, hb1, hb2⟩ := r2.whole _ inR (bR (k + 1) hc)
        refine ⟨b, List.mem_append_right _ hb1, fun n => ?_⟩
        rw [hb2, List.mem_filter, decide_eq_true_iff]
        refine ⟨fun h => h.1, fun h => ⟨h, ?_⟩⟩
        rcases List.mem_append.mp (hm n h) with h' | h'
        · have := (hb.2 p List.mem_cons_self n h h').1
          rw [e] at this; cases this
        · exact h'
    · refine List.pairwise_append.mpr ⟨List.pairwise_flatMap.mpr ⟨fun a ha => ?_, ?_⟩, r2.one, fun x hx y hy h => ?_⟩
      · refine List.pairwise_map.mpr (r1.one.imp_of_mem fun {b b'} hb hb' hne h => hne fun n => ?_)
        have a2 := (rp.sound a ha).2.1
        have b2 := (r1.sound b hb).2.1
        have b2' := (r1.sound b' hb').2.1
        have := h n
        rw [List.mem_append, List.mem_append] at this
        constructor
        · intro hn
          rcases this.mp (.inr hn) with h' | h'
          · exact (off1 (a2 n h') (b2 n hn)).elim
          · exact h'
        · intro hn
          rcases this.mpr (.inr hn) with h' | h'
          · exact (off1 (a2 n h') (b2' n hn)).elim
          · exact h'
      · refine rp.one.imp_of_mem fun {a a'} ha ha' hne x hx y hy h => hne fun n => ?_
        obtain ⟨b, hb, rfl⟩ := List.mem_map.mp hx
        obtain ⟨b', hb', rfl⟩ := List.mem_map.mp hy
        have a2 := (rp.sound a ha).2.1
        have a2' := (rp.sound a' ha').2.1
        have b2 := (r1.sound b hb).2.1
        have b2' := (r1.sound b' hb').2.1
        have := h n
        rw [List.mem_append, List.mem_append] at this
        constructor
        · intro hn
          rcases this.mp (.inl hn) with h' | h'
          · exact h'
          · exact (off1 (a2 n hn) (b2' n h')).elim
        · intro hn
          rcases this.mpr (.inl hn) with h' | h'
          · exact h'
          · exact (off1 (a2' n hn) (b2 n h')).elim
      · obtain ⟨a, ha, b, hb, rfl⟩ := (memX x).mp hx
        obtain ⟨_, a2, a3⟩ := rp.sound a ha
        have y2 := (r2.sound y hy).2.1
        have : a = [] := List.eq_nil_iff_forall_not_mem.mpr fun n hn => off1 (a2 n hn) (y2 n ((h n).mp (List.mem_append_left _ hn)))
        subst this
        have := (barely_iff.mp a3).1
        rw [st_nil p (wf p List.mem_cons_self)] at this
        cases this
theorem cnt_less {m : List Nat} {h : Nat} : ∀ {ps : List Kh.T} {p : Kh.T}, (ps.flatMap lv).Nodup → p ∈ ps → h ∈ lv p → cnt (less m h) ps + (if st m p = true ∧ st (less m h) p = false then 1 else 0) = cnt m ps
  | q :: ps, p, nd, hp, hh => by
    rw [List.flatMap_cons] at nd
    obtain ⟨n1, n2, n3⟩ := List.nodup_append.mp nd
    rw [cnt_cons, cnt_cons]
    rcases List.mem_cons.mp hp with rfl | hp
    · have : cnt (less m h) ps = cnt m ps := cnt_same fun n hn => by
        rw [less_mem]; exact ⟨fun z => z.1, fun z => ⟨z, fun e => n3 h hh n hn e.symm⟩⟩
      rw [this]
      have mono : st (less m h) p = true → st m p = true := st_mono p _ _ fun n _ hn => (less_mem.mp hn).1
      cases e1 : st m p <;> cases e2 : st (less m h) p <;> simp_all
      omega
    · have hq : h ∉ lv q := fun z => n3 h z h (List.mem_flatMap.mpr ⟨p, hp, hh⟩) rfl
      have : st (less m h) q = st m q := st_same fun n hn => by
        rw [less_mem]; exact ⟨fun z => z.1, fun z => ⟨z, fun e => hq (e ▸ hn)⟩⟩
      rw [this]
      have := cnt_less (m := m) n2 hp hh
      omega
theorem barely_bar {b : Bool} {k : Nat} {ps : List Kh.T} (wf : Wf (.gate b k ps)) (nd : (ps.flatMap lv).Nodup) {m : List Nat} (hm : ∀ n ∈ m, n ∈ ps.flatMap lv) : barely (.gate b k ps) m = true ↔ bar ps k m := by
  have wf' := (wf_gate b k ps).mp wf
  have sg : ∀ x, st x (.gate b k ps) = decide (k ≤ cnt x ps) := fun x => st_gate x b k ps
  rw [barely_iff]
  constructor
  · rintro ⟨h1, h2⟩
    rw [sg] at h1
    have h1' := of_decide_eq_true h1
    have h2' : ∀ h ∈ m, cnt (less m h) ps < k := fun h hh => by
      have := h2 h hh
      rw [sg] at this
      have := of_decide_eq_false this
      omega
    have at_ : ∀ p ∈ ps, ∀ h ∈ m, h ∈ lv p → st m p = true ∧ st (less m h) p = false := fun p hp h hh hl => by
      have e := cnt_less (m := m) nd hp hl
      have := h2' h hh
      by_cases c : st m p = true ∧ st (less m h) p = false
      · exact c
      · rw [if_neg c] at e; omega
    refine ⟨?_, at_⟩
    cases m with
    | nil => rw [cnt_nil wf'.2.2] at h1' ⊢; omega
    | cons h m =>
      obtain ⟨p, hp, hl⟩ := List.mem_flatMap.mp (hm h List.mem_cons_self)
      have e := cnt_less (m := h :: m) nd hp hl
      rw [if_pos (at_ p hp h List.mem_cons_self hl)] at e
      have := h2' h List.mem_cons_self
      omega
  · rintro ⟨h1, h2⟩
    refine ⟨by rw [sg, h1]; exact decide_eq_true (Nat.le_refl _), fun h hh => ?_⟩
    obtain ⟨p, hp, hl⟩ := List.mem_flatMap.mp (hm h hh)
    have e := cnt_less (m := m) nd hp hl
    rw [if_pos (h2 p hp h hh hl)] at e
    rw [sg]
    exact decide_eq_false (by omega)
theorem rep_pm : ∀ t : Kh.T, Wf t → (lv t).Nodup → Rep (pm t) (lv t) fun m => barely t m = true := Kh.T.ind
  (fun n _ _ => by
    rw [pm_leaf, lv_leaf]
    refine ⟨fun x hx => ?_, fun m hm hb => ⟨[n], List.mem_singleton.mpr rfl, fun k => ?_⟩, List.pairwise_singleton _ _⟩
    · rw [List.mem_singleton.mp hx]
      refine ⟨by simp, fun _ h => h, barely_iff.mpr ⟨by rw [st_leaf]; simp, fun h hh => ?_⟩⟩
      rw [st_leaf]
      exact decide_eq_false fun z => (less_mem.mp z).2 (List.mem_singleton.mp hh).symm
    · have := (barely_iff.mp hb).1
      rw [st_leaf] at this
      have := of_decide_eq_true this
      exact ⟨fun h => by rw [List.mem_singleton.mp h]; exact this, fun h => hm k h⟩)
  fun b k ps ih wf nd => by
    rw [lv_gate] at nd ⊢
    have wf' := (wf_gate b k ps).mp wf
    have r := rep_unions ps k nd wf'.2.2 fun p hp => ih p hp (wf'.2.2 p hp) (by
      obtain ⟨x, y, rfl⟩ := List.append_of_mem hp
      rw [List.flatMap_append, List.flatMap_cons] at nd
      exact (List.nodup_append.mp (List.nodup_append.mp nd).2.1).1)
    rw [pm_gate]
    exact ⟨fun x hx => ⟨(r.sound x hx).1, (r.sound x hx).2.1, (barely_bar wf nd (r.sound x hx).2.1).mpr (r.sound x hx).2.2⟩, fun m hm hb => r.whole m hm ((barely_bar wf nd hm).mp hb), r.one⟩
end K31

set_option maxRecDepth 100000
set_option maxHeartbeats 4000000
namespace K31
open PySem PySem.Spec PyProof.Rows L2 Kh
section
variable {P : Program} {w : World} {K : PySem.W.Frag} {mg : Str → Option Value} {base : Heap} {a : Nat → Addr} {fd : Nat → FuncData} {C : Addr} {tk : Nat → Tok}
def e1 (ns : List Nat) : List PyData := [nL ns]
def nLL (ms : List (List Nat)) : PyData := .list (ms.map nL)
theorem pow8 : ∀ i, i ≤ 8 → 2 ^ i ≤ 256
  | 0, _ => by decide
  | 1, _ => by decide
  | 2, _ => by decide
  | 3, _ => by decide
  | 4, _ => by decide
  | 5, _ => by decide
  | 6, _ => by decide
  | 7, _ => by decide
  | 8, _ => by decide
theorem lists_len8 {ns : List Nat} (h : ns.length ≤ 8) : (lists ns).length ≤ 256 := by rw [lists_len]; exact pow8 _ h
theorem take_snoc {ns : List Nat} {i n : Nat} (h : ns[i]? = some n) : ns.take (i + 1) = ns.take i ++ [n] := by rw [List.take_add_one, h]; rfl
/-- found + [some + [x] for some in found] -/
theorem lists_step {K : PySem.W.Frag} {S : Addr → Prop} {H : Hp} {σ : L2.St} {iF iX iS n : Nat} {F : V} {ns : List Nat} {Q : VK} (few : ns.length ≤ 7) (kn : Kn S H) (hF : ∀ x, σ[iF]? = some (some F) ∧ wipe ((wipe σ [iS]).set iS (some x)) [iS] = wipe σ [iS] ∧ (wipe σ [iS])[iF]? = some (some F) ∧ ((wipe σ [iS]).set iS (some x))[iX]? = some (some (.int (n : Nat))) ∧ ((wipe σ [iS]).set iS (some x))[iS]? = some (some x))
    (hF2 : σ[iF]? = some (some F)) (dF : Dp K (off S H) F (nLL (lists ns)))
    (q : ∀ u H', Same H H' → Dp K (off S H') u (nLL (lists (ns ++ [n]))) → Q u H') :
    tOp (rCatS K) (tVar iF) (tLc (fun σ H R => iList K (tVar iF) σ H R ∨ iTup K (tVar iF) σ H R) (gName iS) tYes (tOp (rCatS K) (tVar iS) (tLst (tCons (tVar iX) tNil))) [iS]) σ H Q := by
  have l256 := lists_len8 (ns := ns) (by omega)
  refine t_op (t_var hF2 (lcM false (lists ns) nL (fun m => nL (m ++ [n])) kn (fun Q q => t_var hF2 (q _ _ (Same.refl _) dF)) (by omega) (fun x => (hF x).2.1) (fun m hm x H1 S' s1 kn1 dx hS ho Q q => ?_) fun D H1 ys hD s1 hd h1 => ?_))
  · refine t_op (t_var (hF x).2.2.2.2 (t_lst (a_cons (t_var (hF x).2.2.2.1 (a_nil ⟨le1, fun p hp => ?_⟩)))))
    have ml := ((lists_mem ns m).mp hm).length_le
    have sp := same_new (o := HO.lst [V.int (n : Nat)]) hp
    refine cat_d (ds := m.map nD) (es := [.int (n : Nat)]) (kn1.same sp) (dp_same (off_same sp) _ _ dx) (dp_newL kn1 hp (.cons (.int _) .nil)) (by simp; omega) fun u H5 s5 d5 => q u H5 (sp.trans s5) ?_
    have e : PyData.list (m.map nD ++ [.int (n : Nat)]) = nL (m ++ [n]) := by unfold nL; rw [List.map_append]; rfl
    rw [← e]; exact d5
  · refine cat_d (ds := (lists ns).map nL) (es := (lists ns).map fun m => nL (m ++ [n])) (kn.same s1) (dp_same (off_same s1) _ _ dF) h1 (by rw [List.length_map, List.length_map]; omega) fun u H5 s5 d5 => q u H5 (s1.trans s5) ?_
    unfold nLL
    rw [lists_snoc, List.map_append, List.map_map]
    exact d5
abbrev spListsOf (K : PySem.W.Frag) : Sp := spP K e1 (fun ns => ns.length ≤ 8) fun ns => nLL (lists ns)
theorem ok_lists_of (T : Txt K mg a fd C tk) : FnOk P w K mg base CX0 1 (a 20) (fd 20) ["houses"] (spListsOf K) := by
  refine T.F_lists_of.ok sc_lists_of (fun vs H Q E h => spP_len (fun _ => rfl) h) (fun cdv A outer s H vs Q E hr h => ?_)
  obtain ⟨S, ns, kn, hd, few, q⟩ := h
  obtain - | ⟨hd, ⟨⟩⟩ := hd
  rename_i v
  refine ⟨_, (pss_cons (ps_set (i := 1) sc_lists_of.nd rfl (Or.inl rfl) (pe_lst (pa_cons (pe_lst pa_nil) pa_nil)))
      (pss_cons (ps_for PassesOwn.never rfl (k_pi (K := K) (pv 0)) (pg_name (i := 2) sc_lists_of.nd rfl (Or.inr rfl))
        (pss_one (ps_set (i := 1) sc_lists_of.nd rfl (Or.inl rfl) (pe_op (k_catS (K := K)) (pv 1) (pe_lc (own := [("some", 3)]) (g := gName 3) (tt := tYes) rfl sc_lists_of.nd (k_pi (K := K) (pv 1)) (blkOk_by (own := [("some", 3)]) (N := lists_of_N) (sc := defScope lists_of_s) (by decide +kernel)) (fun _ _ _ _ _ => (pg_name (i := 3) sc_lists_of.nd rfl (Or.inl rfl))) (fun _ _ _ _ _ => pts_nil) (fun _ _ _ _ _ => (pe_op (k_catS (K := K)) (pv 3) (pe_lst (pa_cons (pv 2) pa_nil)))))))))
      (pss_one (ps_ret (pv 1))))), ?_⟩
  refine s_seq (s_set (t_lst (a_cons (t_lst0 fun E0 hE => a_nil ⟨le1, fun F hF => ?_⟩))))
  have sE := same_new (o := HO.lst []) hE
  have dE := dp_newL (K := K) kn hE .nil
  have dF := dp_newL (kn.same sE) hF (.cons dE .nil)
  have sF := sE.trans (same_new (o := HO.lst [V.ref E0]) hF)
  generalize upd (upd H E0 (.lst [])) F (.lst [.ref E0]) = H1 at *
  have kn1 := kn.same sF
  have hd1 := dp_same (off_same sF) _ _ hd
  refine s_seq (forM (S := S) false ns nD kn1 (fun Q q => t_var rfl (q _ _ (Same.refl _) hd1)) fun H2 s2 kn2 => ?_)
  refine ⟨fun i σ' H' => ∃ (F : V) (x2 x3 : Option V), σ' = [some v, some F, x2, x3] ∧ Same H2 H' ∧ Dp K (off S H') F (nLL (lists (ns.take i))), ⟨_, _, _, rfl, Same.refl _, dp_same (off_same s2) _ _ dF⟩, fun i σ' H' ⟨_, _, _, _, s, _⟩ => off_sub.trans s, ?_, ?_⟩
  · rintro i n x σ' H' ni hi hm dx ⟨F, x2, x3, rfl, s3, dF'⟩
    cases dx
    refine g_name (s_set (lists_step (n := n) (ns := ns.take i) (by rw [List.length_take]; omega) (kn2.same s3) (fun x => ⟨rfl, rfl, rfl, rfl, rfl⟩) rfl dF' fun u H5 s5 d5 => ⟨u, _, _, rfl, s3.trans s5, ?_⟩))
    rw [take_snoc ni]; exact d5
  · rintro σ' H' ⟨F, x2, x3, rfl, s3, dF'⟩
    rw [List.take_length] at dF'
    exact nx_of (s_ret (t_var rfl (q _ _ ((sF.trans s2).trans s3) dF')))
abbrev spBarely (K : PySem.W.Frag) : Sp := spP K tS (fun x => preT 6 x.1 ∧ x.2.2.length ≤ 1000) fun x => .bool (barely x.1 x.2.2)
theorem ok_stands_barely (T : Txt K mg a fd C tk) : FnOk P w K mg base CX0 8 (a 21) (fd 21) ["shape", "houses"] (spBarely K) := by
  have G_stands_in := ok_stands_in (P := P) (w := w) (base := base) T 6
  refine T.F_stands_barely.ok sc_stands_barely (fun vs H Q E h => spP_len (fun _ => rfl) h) (fun cdv A outer s H vs Q E hr h => ?_)
  obtain ⟨S, ⟨t, c, ns⟩, kn, hd, ⟨pre, few⟩, q⟩ := h
  replace q : ∀ v H', Same H H' → Dp K (off S H') v (.bool (barely t ns)) → Q v H' := q
  replace few : ns.length ≤ 1000 := few
  replace pre : preT 6 t := pre
  obtain - | ⟨hd, - | ⟨hs, ⟨⟩⟩⟩ := hd
  rename_i v vh
  replace hd : Dp K (off S H) v (tD t) := hd
  replace hs : Dp K (off S H) vh (sq c (ns.map nD)) := hs
  refine ⟨_, (pss_cons (ps_if (pt_not (pt_val (pe_call G_stands_in (hr.mono (by omega)) (by rfl) T.m_stands_in T.F_stands_in.kp T.b_stands_in .nil pass0 (pa_cons (pv 0) (pa_cons (pv 1) pa_nil)))))
        (pss_one (ps_ret pe_bl)) pss_nil)
      (pss_one (ps_ret (pe_not (pe_callB (k_any (K := K) rfl) (by rfl) T.z_any (by decide +kernel) (pa_cons (pe_lc (own := [("house", 2)]) (g := gName 2) (tt := tYes) rfl sc_stands_barely.nd (k_pi (K := K) (pv 1)) (blkOk_by (own := [("house", 2)]) (N := stands_barely_N) (sc := defScope stands_barely_s) (by decide +kernel)) (fun _ _ _ _ _ => (pg_name (i := 2) sc_stands_barely.nd rfl (Or.inr rfl))) (fun _ _ _ _ _ => pts_nil) (fun _ _ _ _ _ => (pe_call G_stands_in (hr.mono (by omega)) (by rfl) T.m_stands_in T.F_stands_in.kp T.b_stands_in .nil pass0 (pa_cons (pv 0) (pa_cons (pe_lc (own := [("other", 3)]) (g := gName 3) (tt := _) rfl sc_stands_barely.nd (k_pi (K := K) (pv 1)) (show BlkOk stands_barely_N (relS _ (defScope stands_barely_s)) _ [("other", 3)] from blkOk_by (by decide +kernel)) (fun _ _ _ _ _ => (pg_name (i := 3) sc_stands_barely.nd rfl (Or.inl rfl))) (fun _ _ _ _ _ => (pts_one (pt_cmpR op_ne (pv 3) (pv 2) (nomark _)))) (fun _ _ _ _ _ => (pv 3))) pa_nil))))) pa_nil)))))), ?_⟩
  refine s_seq (s_if (b_not (b_val (t_call2 (t_var rfl (t_var rfl ⟨S, (t, c, ns), kn, .cons hd (.cons hs .nil), pre, fun u H1 s1 du => ?_⟩))))))
  replace du : Dp K (off S H1) u (.bool (st ns t)) := du
  cases du
  refine ⟨_, rfl, if_b (fun e => ?_) (fun e => s_next ?_)⟩
  · refine s_ret (t_c (q _ _ s1 (dp_bl ?_)))
    unfold barely
    cases h : st ns t with
    | false => rfl
    | true => rw [h] at e; cases e
  have est : st ns t = true := by cases h : st ns t with
    | true => rfl
    | false => rw [h] at e; cases e
  have kn1 := kn.same s1
  have hd1 := dp_same (off_same s1) _ _ hd
  have hs1 := dp_same (off_same s1) _ _ hs
  refine s_ret (t_notV (t_cb1 (lcM c ns nD (fun h => .bool (st (less ns h) t)) kn1 (fun Q q => t_var rfl (q _ _ (Same.refl _) hs1)) (by omega) (fun _ => rfl) (fun n hn x H2 S2 s2 kn2 dx hS ho Q q => ?_) fun D H2 ys hD s2 hd2 h2 => ?_)))
  · cases dx
    have hs2 := dp_same ho _ _ hs1
    have hd2 := dp_same ho _ _ hd1
    refine t_call2 (t_var rfl (lcF c ns (fun k => decide (k ≠ n)) nD nD kn2 (fun Q q => t_var rfl (q _ _ (Same.refl _) hs2)) (by omega) (fun _ => rfl) (fun k hk x H3 S3 s3 kn3 dx hS3 ho3 Q q => ?_) (fun k hk pk x H3 S3 s3 kn3 dx hS3 ho3 Q q => ?_) fun D3 H3 ys3 hD3 s3 hd3 h3 => ?_))
    · cases dx
      refine b_test (t_op (t_var rfl (t_var rfl ⟨rfl, _, rfl, ?_⟩)))
      have e : (!decide (V.int ((k : Nat) : Int) = V.int ((n : Nat) : Int))) = decide (k ≠ n) := by
        rw [decide_not]; exact congrArg _ (decide_eq_decide.mpr ⟨fun h => by have := V.int.inj h; omega, fun h => by rw [h]⟩)
      show Q (!decide (V.int ((k : Nat) : Int) = V.int ((n : Nat) : Int))) H3
      rw [e]; exact q H3 (Same.refl _)
    · exact t_var rfl (q _ _ (Same.refl _) dx)
    · refine ⟨S2, (t, false, less ns n), kn2.same s3, .cons (dp_same (off_same s3) _ _ hd2) (.cons h3 .nil), pre, fun v H' s' h => q v H' (s3.trans s') h⟩
  · refine any_d (bs := ns.map fun h => st (less ns h) t) off_sub (by rw [List.map_map]; exact h2) ⟨_, rfl, q _ _ (s1.trans s2) (dp_bl ?_)⟩
    unfold barely
    rw [est]; rfl
end
end K31

set_option maxRecDepth 100000
set_option maxHeartbeats 4000000
namespace K31
open PySem PySem.Spec PyProof.Rows L2 Kh
/-- a pot stands at p -/
def PotAt (H : Hp) (p : Addr) : Prop := ∃ x y : Int, H p = some (.lst [.int x, .int y]) ∧ y.natAbs < 2 ^ 40
theorem log_lt {j : Int} {b : Nat} (h : j.natAbs < 2 ^ b) (h0 : 0 < b) : j.natAbs.log2 < b := PySem.Flt.log2_lt_of h0 h
section
variable {P : Program} {w : World} {K : PySem.W.Frag} {mg : Str → Option Value} {base : Heap} {a : Nat → Addr} {fd : Nat → FuncData} {C : Addr} {tk : Nat → Tok}
/-- a new pot -/
def spPot (K : PySem.W.Frag) : Sp := fun vs H Q _ => ∃ (v : V) (ns : List Int) (k : Nat), vs = [v, .int (k : Nat)] ∧ Dp K H v (.list (ns.map PyData.int)) ∧ k < 100 ∧ ∀ p H', Same H H' → H p = none → PotAt H' p → Q (.ref p) H'
theorem ok__law_pot (T : Txt K mg a fd C tk) : FnOk P w K mg base CX0 1 (a 38) (fd 38) ["_law_script", "_law_k"] (spPot K) := by
  refine T.F__law_pot.ok sc__law_pot (fun vs H Q E h => by obtain ⟨_, _, _, rfl, _⟩ := h; rfl) (fun cdv A outer s H vs Q E hr h => ?_)
  obtain ⟨v, ns, k, rfl, hd, hk, q⟩ := h
  refine ⟨_, (pss_cons (ps_set (i := 2) sc__law_pot.nd rfl (Or.inl rfl) (pe_op op_add (pe_op op_mulW pe_int (pv 1)) pe_int))
      (pss_cons (ps_if (pt_cmpR op_lt (pv 1) (pe_callB (k_len (K := K)) (by rfl) T.z_len (by decide +kernel) (pa_cons (pv 0) pa_nil)) (nomark _))
        (pss_one (ps_set (i := 2) sc__law_pot.nd rfl (Or.inl rfl) (pe_callB call_absR (by rfl) T.z_abs (by decide +kernel) (pa_cons (pe_ix (k_ix (K := K)) (pv 0) (pv 1) (fun _ _ => rfl)) pa_nil)))) pss_nil)
      (pss_one (ps_ret (pe_lst (pa_cons (pe_callB (call_max2R rfl) (by rfl) T.z_max (by decide +kernel) (pa_cons pe_int (pa_cons (pe_op op_sub (pv 2) (pe_op op_pow pe_int pe_int)) pa_nil))) (pa_cons (pe_op op_add (pe_op op_mod (pe_callTy call_int1R (by rfl) T.z_int (by decide +kernel) (pa_cons (pe_op op_add (pe_op op_add (pe_op op_mulW (pe_op op_mod (pe_callTy call_int1R (by rfl) T.z_int (by decide +kernel) (pa_cons (pv 2) pa_nil)) pe_int) pe_int) (pe_op op_mulW pe_int (pv 1))) pe_int) pa_nil)) pe_int) pe_int) pa_nil))))))), ?_⟩
  have kb : ((k : Nat) : Int).natAbs < 2 ^ 7 := by simp; omega
  refine s_seq (s_set (t_op (t_op (t_c (t_var rfl ⟨_, _, rfl, rfl, wide_mul (a := 7) (b := 7) (by decide) kb (by decide) (by decide) (by decide), t_c ⟨_, _, rfl, rfl, ?_⟩⟩)))))
  -- the second half, whatever the cell is
  have fin : ∀ c : Int, (tRet (tLst (tCons (tCB rMax2 (tCons (tC (.int 0)) (tCons (tOp (rI0 fun i j => V.int (i - j)) (tVar 2) (tOp (rI CPow fun i j => V.int (i ^ j.toNat)) (tC (.int 10)) (tC (.int 18)))) tNil)))
      (tCons (tOp (rI0 fun i j => V.int (i + j)) (tOp (rI (fun _ j => 0 < j) fun i j => V.int (i % j)) (tCB rInt1 (tCons (tOp (rI0 fun i j => V.int (i + j)) (tOp (rI0 fun i j => V.int (i + j)) (tOp (rI CMulW fun i j => V.int (i * j)) (tOp (rI (fun _ j => 0 < j) fun i j => V.int (i % j)) (tCB rInt1 (tCons (tVar 2) tNil)) (tC (.int 2147483563))) (tC (.int 40031))) (tOp (rI CMulW fun i j => V.int (i * j)) (tC (.int 7)) (tVar 1))) (tC (.int 19))) tNil)) (tC (.int 2147483579))) (tC (.int 1))) tNil)))) { nx := fun _ H' => Q .non H', rt := Q } [some v, some (.int (k : Nat)), some (.int c)] H := by
    intro c
    refine s_ret (t_lst (a_cons (t_cb2 (t_c (t_op (t_var rfl (t_op (t_c (t_c ⟨_, _, rfl, rfl, ⟨by decide, by decide, by decide⟩, ?_⟩))))))))) 
    refine ⟨_, _, rfl, rfl, ⟨_, _, rfl, ?_⟩⟩
    refine a_cons (t_op (t_op (t_cb1 (t_op (t_op (t_op (t_op (t_cb1 (t_var rfl (.inl ⟨_, rfl, t_c ⟨_, _, rfl, rfl, (by decide : (0 : Int) < 2147483563), ?_⟩⟩)))))))))) 
    have m1 : (c % 2147483563).natAbs < 2 ^ 31 := by
      have h1 := Int.emod_nonneg c (show (2147483563 : Int) ≠ 0 by decide)
      have h2 := Int.emod_lt_of_pos c (show (0 : Int) < 2147483563 by decide)
      omega
    refine t_c ⟨_, _, rfl, rfl, wide_mul (a := 31) (b := 16) m1 (by decide) (by decide) (by decide) (by decide), ?_⟩
    refine t_op (t_c (t_var rfl ⟨_, _, rfl, rfl, wide_mul (a := 3) (b := 7) (by decide) kb (by decide) (by decide) (by decide), ⟨_, _, rfl, rfl, t_c ⟨_, _, rfl, rfl, .inl ⟨_, rfl, t_c ⟨_, _, rfl, rfl, (by decide : (0 : Int) < 2147483579), t_c ⟨_, _, rfl, rfl, a_nil ⟨le2, fun p hp => ?_⟩⟩⟩⟩⟩⟩⟩))
    generalize hz : (c % 2147483563 * 40031 + 7 * (k : Int) + 19) = z
    refine q p _ (same_new hp) hp ⟨_, _, upd_same, ?_⟩
    have h1 := Int.emod_nonneg z (show (2147483579 : Int) ≠ 0 by decide)
    have h2 := Int.emod_lt_of_pos z (show (0 : Int) < 2147483579 by decide)
    omega
  obtain ⟨l, xs, rfl, hs, ha⟩ := list_at hd
  have ex := dpa_ints ha
  subst ex
  refine s_seq (s_if (b_test (t_op (t_var rfl (t_cb1 (t_var rfl ⟨l, _, rfl, .inl hs, ⟨_, _, rfl, rfl, ?_⟩⟩))))))
  refine ⟨_, rfl, if_b (fun c => ?_) (fun c => s_next (fin _))⟩
  have hk2 : k < ns.length := by have := of_decide_eq_true c; rw [List.length_map] at this; omega
  refine s_set (t_cb1 (t_op (t_var rfl (t_var rfl (.inl ⟨l, _, ((k : Nat) : Int), .int ns[k], rfl, rfl, hs, atI_nat (by simp [hk2]), ⟨_, rfl, fin _⟩⟩)))))
end
end K31

set_option maxRecDepth 100000
set_option maxHeartbeats 4000000
namespace K31
open PySem PySem.Spec PyProof.Rows L2 Kh
section
variable {P : Program} {w : World} {K : PySem.W.Frag} {mg : Str → Option Value} {base : Heap} {a : Nat → Addr} {fd : Nat → FuncData} {C : Addr} {tk : Nat → Tok}
/-- a draw below many -/
def spDraw (K : PySem.W.Frag) : Sp := fun vs H Q _ => ∃ (p : Addr) (m : Nat), vs = [.ref p, .int (m : Nat)] ∧ PotAt H p ∧ 0 < m ∧ m < 100000 ∧ ∀ (d : Nat) H', d < m → SameBut p H H' → PotAt H' p → Q (.int (d : Nat)) H'
theorem ok__law_draw (T : Txt K mg a fd C tk) : FnOk P w K mg base CX0 1 (a 39) (fd 39) ["_law_pot_here", "_law_many"] (spDraw K) := by
  refine T.F__law_draw.ok sc__law_draw (fun vs H Q E h => by obtain ⟨_, _, rfl, _⟩ := h; rfl) (fun cdv A outer s H vs Q E hr h => ?_)
  obtain ⟨p, m, rfl, ⟨x, y, hp, hy⟩, m0, m1, q⟩ := h
  refine ⟨_, (pss_cons (ps_if (pt_cmpR op_gt (pe_ix (k_ix (K := K)) (pv 0) pe_int (fun _ _ => rfl)) pe_int (nomark _))
        (pss_cons (ps_asg (pe_callB call_divmodW (by rfl) T.z_divmod (by decide +kernel) (pa_cons (pe_ix (k_ix (K := K)) (pv 0) pe_int (fun _ _ => rfl)) (pa_cons (pv 1) pa_nil))) (pg_tup rfl (pgs_cons (pg_sub (pv 0) pe_int set_list) (pgs_cons (pg_name (i := 2) sc__law_draw.nd rfl (Or.inl rfl)) pgs_nil))))
        (pss_one (ps_ret (pv 2)))) pss_nil)
      (pss_cons (ps_asg (pe_op op_mod (pe_callTy call_int1R (by rfl) T.z_int (by decide +kernel) (pa_cons (pe_op op_add (pe_op op_mulW (pe_ix (k_ix (K := K)) (pv 0) pe_int (fun _ _ => rfl)) pe_int) pe_int) pa_nil)) pe_int) (pg_sub (pv 0) pe_int set_list))
      (pss_one (ps_ret (pe_op op_mod (pe_callTy call_int1R (by rfl) T.z_int (by decide +kernel) (pa_cons (pe_op op_fdivW (pe_op op_mod (pe_callTy call_int1R (by rfl) T.z_int (by decide +kernel) (pa_cons (pe_op op_mulW (pe_ix (k_ix (K := K)) (pv 0) pe_int (fun _ _ => rfl)) (pe_ix (k_ix (K := K)) (pv 0) pe_int (fun _ _ => rfl))) pa_nil)) pe_int) pe_int) pa_nil)) (pv 1)))))), ?_⟩
  have at0 : ∀ {H' : Hp} {u v : V} {Q' : VK}, H' p = some (.lst [u, v]) → Q' u H' → rIx K (.ref p) (.int 0) H' Q' := fun {H' u v Q'} h q => .inl ⟨p, _, ((0 : Nat) : Int), u, rfl, rfl, sqL h, atI_nat (j := 0) rfl, q⟩
  have at1 : ∀ {H' : Hp} {u v : V} {Q' : VK}, H' p = some (.lst [u, v]) → Q' v H' → rIx K (.ref p) (.int 1) H' Q' := fun {H' u v Q'} h q => .inl ⟨p, _, ((1 : Nat) : Int), v, rfl, rfl, sqL h, atI_nat (j := 1) rfl, q⟩
  have mb : ((m : Nat) : Int).natAbs.log2 < 9000 := Nat.lt_of_lt_of_le (log_lt (b := 17) (by simp; omega) (by decide)) (by decide)
  have dig : ∀ z : Int, ∃ d : Nat, d < m ∧ z % (m : Nat) = (d : Nat) := fun z => by
    have h1 := Int.emod_nonneg z (show ((m : Nat) : Int) ≠ 0 by omega)
    have h2 := Int.emod_lt_of_pos z (show (0 : Int) < (m : Nat) by omega)
    exact ⟨(z % (m : Nat)).toNat, by omega, by omega⟩
  refine s_seq (s_if (b_test (t_op (t_op (t_var rfl (t_c (at0 hp (t_c ⟨_, _, rfl, rfl, ?_⟩))))))))
  refine ⟨_, rfl, if_b (fun c => ?_) (fun c => s_next ?_)⟩
  · refine s_seq ?_
    refine t_cb2 (t_op (t_var rfl (t_c (at0 hp (t_var rfl ⟨_, _, rfl, ⟨by omega, PyProof.noPylong_of_log2 mb⟩, fun r hr0 => ?_⟩)))))
    have hpr := same_new (o := HO.tup [V.int (x / (m : Nat)), V.int (x % (m : Nat))]) hr0 _ _ hp
    refine ⟨r, _, rfl, sqT upd_same, rfl, _, _, rfl, ?_⟩
    refine t_var rfl (t_c ⟨p, _, 0, 0, rfl, rfl, hpr, rfl, ?_⟩)
    refine ⟨_, _, rfl, g_name ⟨rfl, ?_⟩⟩
    refine s_ret (t_var rfl ?_)
    obtain ⟨d, hd, e⟩ := dig x
    rw [e]
    exact q d _ hd (bmut (sbut (same_new hr0))) ⟨_, _, upd_same, hy⟩
  · refine s_seq ?_
    refine t_op (t_cb1 (t_op (t_op (t_op (t_var rfl (t_c (at1 hp (t_c ⟨_, _, rfl, rfl, wide_mul (a := 40) (b := 16) hy (by decide) (by decide) (by decide) (by decide), t_c ⟨_, _, rfl, rfl, ?_⟩⟩)))))))) 
    refine .inl ⟨_, rfl, t_c ⟨_, _, rfl, rfl, (by decide : (0 : Int) < 2147483587), ?_⟩⟩
    have zb : ((y * 48271 + 10009) % 2147483587).natAbs < 2 ^ 31 := by
      have h1 := Int.emod_nonneg (y * 48271 + 10009) (show (2147483587 : Int) ≠ 0 by decide)
      have h2 := Int.emod_lt_of_pos (y * 48271 + 10009) (show (0 : Int) < 2147483587 by decide)
      omega
    refine t_var rfl (t_c ⟨p, _, 1, 1, rfl, rfl, hp, rfl, nx_of ?_⟩)
    have hp2 : (upd H p (.lst [V.int x, V.int ((y * 48271 + 10009) % 2147483587)])) p = some (.lst [.int x, .int ((y * 48271 + 10009) % 2147483587)]) := upd_same
    have b2 : SameBut p H (upd H p (.lst [V.int x, V.int ((y * 48271 + 10009) % 2147483587)])) := bmut (sbut (Same.refl H))
    refine s_ret (t_op (t_cb1 (t_op (t_op (t_cb1 (t_op (t_op (t_var rfl (t_c (at1 hp2 (t_op (t_var rfl (t_c (at1 hp2 ⟨_, _, rfl, rfl, wide_mul (a := 31) (b := 31) zb zb (by decide) (by decide) (by decide), ?_⟩))))))))))))))
    refine .inl ⟨_, rfl, t_c ⟨_, _, rfl, rfl, (by decide : (0 : Int) < 2147483549), t_c ⟨_, _, rfl, rfl, ⟨by decide, by decide +kernel⟩, ?_⟩⟩⟩
    refine .inl ⟨_, rfl, t_var rfl ⟨_, _, rfl, rfl, (show (0 : Int) < (m : Nat) by omega), ?_⟩⟩
    obtain ⟨d, hd, e⟩ := dig ((y * 48271 + 10009) % 2147483587 * ((y * 48271 + 10009) % 2147483587) % 2147483549 / 13)
    have fin : Q (.int ((y * 48271 + 10009) % 2147483587 * ((y * 48271 + 10009) % 2147483587) % 2147483549 / 13 % (m : Nat))) (upd H p (.lst [V.int x, V.int ((y * 48271 + 10009) % 2147483587)])) := by
      rw [e]; exact q d _ hd b2 ⟨_, _, hp2, Nat.lt_of_lt_of_le zb (by decide)⟩
    exact fin
/-- one of a list -/
def spPick (K : PySem.W.Frag) : Sp := fun vs H Q _ => ∃ (p l : Addr) (xs : List V), vs = [.ref p, .ref l] ∧ PotAt H p ∧ (∀ H', SameBut p H H' → SqL K H' l xs) ∧ 0 < xs.length ∧ xs.length < 1000 ∧ ∀ (d : Nat) x H', xs[d]? = some x → SameBut p H H' → PotAt H' p → Q x H'
theorem sql_but {K : PySem.W.Frag} {H H' : Hp} {p l : Addr} {xs : List V} (h : SqL K H l xs) (e : SameBut p H H') (n : l ≠ p) : SqL K H' l xs := by
  rcases h with (h | ⟨o, h⟩) | h
  · exact .inl (.inl (e _ _ n h))
  · exact .inl (.inr ⟨o, e _ _ n h⟩)
  · exact .inr h
theorem ok__law_pick (T : Txt K mg a fd C tk) : FnOk P w K mg base CX0 2 (a 40) (fd 40) ["_law_pot_here", "_law_menu"] (spPick K) := by
  have G__law_draw := ok__law_draw (P := P) (w := w) (base := base) T
  refine T.F__law_pick.ok sc__law_pick (fun vs H Q E h => by obtain ⟨_, _, _, rfl, _⟩ := h; rfl) (fun cdv A outer s H vs Q E hr h => ?_)
  obtain ⟨p, l, xs, rfl, hp, hl, x0, x1, q⟩ := h
  refine ⟨_, (pss_one (ps_ret (pe_ix (k_ix (K := K)) (pv 1) (pe_call G__law_draw (hr.mono (by omega)) (by rfl) T.m__law_draw T.F__law_draw.kp T.b__law_draw .nil pass0 (pa_cons (pv 0) (pa_cons (pe_callB (k_len (K := K)) (by rfl) T.z_len (by decide +kernel) (pa_cons (pv 1) pa_nil)) pa_nil))) (fun _ _ => rfl)))), ?_⟩
  refine s_ret (t_op (t_var rfl (t_call2 (t_var rfl (t_cb1 (t_var rfl ⟨l, xs, rfl, .inl (hl H (sbut (Same.refl H))), ⟨p, xs.length, rfl, hp, x0, by omega, fun d H' hd sb hp' => ?_⟩⟩))))))
  exact .inl ⟨l, xs, ((d : Nat) : Int), xs[d], rfl, rfl, hl H' sb, atI_nat (by simp [hd]), q d _ H' (by simp [hd]) sb hp'⟩
end
end K31

set_option maxRecDepth 100000
set_option maxHeartbeats 4000000
namespace K31
open PySem PySem.Spec PyProof.Rows L2 Kh
section
variable {P : Program} {w : World} {K : PySem.W.Frag} {mg : Str → Option Value} {base : Heap} {a : Nat → Addr} {fd : Nat → FuncData} {C : Addr} {tk : Nat → Tok}
theorem can_nums : ∀ ms : List Nat, PyData.canLayAll0 (ms.map nD) = true
  | [] => by simp [PyData.canLayAll0]
  | m :: ms => by rw [List.map_cons, PyData.canLayAll0, can_nums ms]; simp [nD, PyData.canLay0]
theorem dep_nums : ∀ ms : List Nat, PyData.depthAll (ms.map nD) = 0
  | [] => by simp [PyData.depthAll]
  | m :: ms => by rw [List.map_cons, PyData.depthAll, dep_nums ms]; simp [nD, PyData.depth]
theorem shaped_nL (ms : List Nat) : SeqAt.shaped (nL ms) = true := by
  unfold SeqAt.shaped nL
  rw [PyData.canLay0, can_nums, PyData.depth, dep_nums]; rfl
theorem eqv_nil (ms : List Nat) : PyData.eqv (nL ms) (.list []) = ms.isEmpty := by
  unfold nL
  rw [PyData.eqv]
  cases ms with
  | nil => rw [List.map_nil, PyData.eqvAll]; rfl
  | cons m ms => rw [List.map_cons, PyData.eqvAll]; rfl
theorem nats_dpa {H : Hp} : ∀ ns : List Nat, DpAll K H (ns.map fun n : Nat => V.int (n : Nat)) (ns.map nD)
  | [] => .nil
  | n :: ns => .cons (.int _) (nats_dpa ns)
theorem dpa_nats {H : Hp} : ∀ {ns : List Nat} {vs : List V}, DpAll K H vs (ns.map nD) → vs = ns.map fun n : Nat => V.int (n : Nat)
  | [], _, h => by cases h; rfl
  | n :: ns, _, h => by
    cases h with
    | cons h1 h2 => cases h1; rw [dpa_nats h2]; rfl
/-- the given numbers, in some order -/
def spMixed (K : PySem.W.Frag) : Sp := fun vs H Q _ => ∃ (S : Addr → Prop) (p : Addr) (v : V) (ns : List Nat), vs = [.ref p, v] ∧ Kn S H ∧ S p ∧ PotAt H p ∧ Dp K (off S H) v (nL ns) ∧ ns.length ≤ 100 ∧
  ∀ u H' ms, SameBut p H H' → PotAt H' p → ms.Perm ns → Dp K (off S H') u (nL ms) → Q u H'
theorem perm_erase {x : Nat} : ∀ {l : List Nat} {k : Nat}, l[k]? = some x → (x :: l.eraseIdx k).Perm l
  | [], k, h => by simp at h
  | y :: l, 0, h => by
    simp at h; subst h
    rw [List.eraseIdx_cons_zero]
  | y :: l, k + 1, h => by
    rw [List.eraseIdx_cons_succ]
    exact (List.Perm.swap y x _).trans ((perm_erase (l := l) (k := k) (by simpa using h)).cons y)
theorem erase_nats : ∀ (l : List Nat) (k : Nat), (l.map fun n : Nat => V.int (n : Nat)).eraseIdx k = (l.eraseIdx k).map fun n : Nat => V.int (n : Nat)
  | [], k => by simp
  | y :: l, 0 => by simp
  | y :: l, k + 1 => by simp [erase_nats l k]
theorem ok__law_mixed (T : Txt K mg a fd C tk) : FnOk P w K mg base CX0 2 (a 41) (fd 41) ["_law_pot_here", "_law_some"] (spMixed K) := by
  have G__law_draw := ok__law_draw (P := P) (w := w) (base := base) T
  refine T.F__law_mixed.ok sc__law_mixed (fun vs H Q E h => by obtain ⟨_, _, _, _, rfl, _⟩ := h; rfl) (fun cdv A outer s H vs Q E hr h => ?_)
  obtain ⟨S, p, v, ns, rfl, kn, hS, hp, hd, few, q⟩ := h
  refine ⟨_, (pss_cons (ps_par (i := 2) (j := 3) (by rfl) sc__law_mixed.nd rfl rfl (by decide) rfl rfl (pa_cons (pe_callTy (k_list (K := K)) (by rfl) T.z_list (by decide +kernel) (pa_cons (pv 1) pa_nil)) (pa_cons (pe_lst pa_nil) pa_nil)) (by rfl))
      (pss_cons (ps_while PassesOwn.never (pt_cmpR (k_neD (K := K) hr.units) (pv 2) (pe_lst pa_nil) (nomark _))
        (pss_one (ps_expr (pe_bm PySem.F.plainAttrs_list PySem.F.slot_list_append PySem.F.type_list_append mt_append (pv 3) (pa_cons (pe_bm PySem.F.plainAttrs_list PySem.F.slot_list_pop PySem.F.type_list_pop mt_popAt (pv 2) (pa_cons (pe_call G__law_draw (hr.mono (by omega)) (by rfl) T.m__law_draw T.F__law_draw.kp T.b__law_draw .nil pass0 (pa_cons (pv 0) (pa_cons (pe_callB (k_len (K := K)) (by rfl) T.z_len (by decide +kernel) (pa_cons (pv 2) pa_nil)) pa_nil))) pa_nil)) pa_nil)))))
      (pss_one (ps_ret (pv 3))))), ?_⟩
  refine s_seq (a_cons (t_cb1 (t_var rfl (list_d kn hd rfl fun L xs hL ha _ => a_cons (t_lst0 fun F hF => a_nil ⟨_, _, rfl, nx_of ?_⟩)))))
  have ex := dpa_nats ha
  subst ex
  have sL := same_new (o := HO.lst (ns.map fun n : Nat => V.int (n : Nat))) hL
  have sF := same_new (o := HO.lst []) hF
  have FL : L ≠ F := ne_of_none (upd_same (H := H)) hF
  have hF0 : H F = none := sL.free hF
  obtain ⟨x0, y0, hp0, _⟩ := id hp
  have pL : L ≠ p := fun e => by subst e; rw [hL] at hp0; cases hp0
  have pF : F ≠ p := fun e => by subst e; rw [hF0] at hp0; cases hp0
  have kb : ∀ {H' : Hp}, SameBut p H H' → PotAt H' p → Kn S H' := fun {H'} sb pt => kn_bt kn sb (by obtain ⟨_, _, h, _⟩ := pt; exact some_ne h)
  refine s_seq ⟨fun m σ H' => ∃ fs ls : List Nat, σ = [some (.ref p), some v, some (.ref L), some (.ref F)] ∧ H' L = some (.lst (ls.map fun n : Nat => V.int (n : Nat))) ∧ H' F = some (.lst (fs.map fun n : Nat => V.int (n : Nat))) ∧ PotAt H' p ∧ SameBut p H H' ∧ (fs ++ ls).Perm ns ∧ m = ls.length,
    ⟨_, [], ns, rfl, by rw [upd_ne FL]; exact upd_same, upd_same, ⟨x0, y0, by rw [upd_ne (Ne.symm pF), upd_ne (Ne.symm pL)]; exact hp0, by assumption⟩, sbut (sL.trans sF), List.Perm.refl _, rfl⟩, ?_⟩
  rintro m σ H' ⟨fs, ls, rfl, hL', hF', hp', sb, pm, rfl⟩
  have len := pm.length_eq
  rw [List.length_append] at len
  refine b_test (t_op (t_var rfl (t_lst0 fun E0 hE => ⟨nL ls, .list [], .lst (sqL (same_new hE _ _ hL')) (nats_dpa ls), .lst (sqL upd_same) .nil, shaped_nL ls, (by decide), ?_⟩)))
  have sE := same_new (o := HO.lst []) hE
  have hp1 : PotAt (upd H' E0 (.lst [])) p := by obtain ⟨x, y, h, hy⟩ := hp'; exact ⟨x, y, sE _ _ h, hy⟩
  have hL1 := sE _ _ hL'
  have hF1 := sE _ _ hF'
  have sb1 : SameBut p H (upd H' E0 (.lst [])) := fun b o n h => sE _ _ (sb b o n h)
  generalize upd H' E0 (.lst []) = H1 at *
  rw [eqv_nil]
  cases ls with
  | nil =>
    refine ⟨_, rfl, ifF rfl (nx_of (s_ret (t_var rfl (q _ H1 fs sb1 hp1 (by rw [List.append_nil] at pm; exact pm) (dp_lst ?_ hF1 (nats_dpa fs))))))⟩
    exact kn.new hF0
  | cons n0 lr =>
    refine ⟨_, rfl, ifT rfl ⟨fun σ' H'' => ∃ fs ls : List Nat, σ' = [some (.ref p), some v, some (.ref L), some (.ref F)] ∧ H'' L = some (.lst (ls.map fun n : Nat => V.int (n : Nat))) ∧ H'' F = some (.lst (fs.map fun n : Nat => V.int (n : Nat))) ∧ PotAt H'' p ∧ SameBut p H H'' ∧ (fs ++ ls).Perm ns ∧ ls.length < (n0 :: lr).length, ?_, ?_⟩⟩
    · rintro σ' H'' ⟨fs', ls', h1, h2, h3, h4, h5, h6, h7⟩
      exact ⟨_, h7, fs', ls', h1, h2, h3, h4, h5, h6, rfl⟩
    · refine s_drop (t_bm (t_var rfl ⟨.inl ⟨rfl, _, sqL hF1⟩, a_cons (t_bm (t_var rfl ⟨.inl ⟨rfl, _, sqL hL1⟩, a_cons (t_call2 (t_var rfl (t_cb1 (t_var rfl ⟨L, _, rfl, .inl (sqL hL1), p, (n0 :: lr).length, ?_, hp1, by simp, by omega, fun d H2 hd sb2 hp2 => ?_⟩))))⟩))⟩))
      · rw [List.length_map]
      · have hL2 := sb2 _ _ pL hL1
        have hF2 := sb2 _ _ pF hF1
        obtain ⟨x, hx⟩ : ∃ x, (n0 :: lr)[d]? = some x := ⟨_, List.getElem?_eq_getElem hd⟩
        refine a_nil ⟨L, _, (d : Nat), d, .int (x : Nat), rfl, rfl, hL2, by omega, by omega, ?_, ?_, a_nil ⟨F, _, _, rfl, rfl, by rw [upd_ne (Ne.symm FL)]; exact hF2, Nat.lt_of_le_of_lt (show (fs.map fun n : Nat => V.int (n : Nat)).length ≤ 100000 by rw [List.length_map]; omega) (by decide), ?_⟩⟩
        · refine (ixN_seq ?_).1
          unfold ixN
          rw [List.length_map, if_pos (by omega), if_pos (by omega), Int.toNat_natCast]
        · rw [List.getElem?_map, hx]; rfl
        · refine ⟨fs ++ [x], (n0 :: lr).eraseIdx d, rfl, ?_, ?_, ?_, ?_, ?_, ?_⟩
          · rw [upd_ne FL, upd_same, erase_nats]
          · rw [upd_same, List.map_append]; rfl
          · obtain ⟨x2, y2, h2, hy2⟩ := hp2
            exact ⟨x2, y2, by rw [upd_ne (Ne.symm pF), upd_ne (Ne.symm pL)]; exact h2, hy2⟩
          · intro b o n h
            rw [upd_ne (ne_of_none h hF0), upd_ne (ne_of_none h hL)]
            exact sb2 b o n (sb1 b o n h)
          · rw [List.append_assoc]
            exact ((perm_erase hx).append_left fs).trans pm
          · rw [List.length_eraseIdx, if_pos hd]; simp
theorem o_none {σ : L2.St} {H : Hp} {q : Option Int → Hp → Prop} (h : q none H) : tNoPart σ H q := h
theorem o_some {te : TE} {σ : L2.St} {H : Hp} {q : Option Int → Hp → Prop} (h : te σ H fun x H1 => ∃ i, x = .int i ∧ q (some i) H1) : tPart te σ H q := h
/-- many different houses -/
def spNames (K : PySem.W.Frag) : Sp := fun vs H Q _ => ∃ (S : Addr → Prop) (p : Addr) (m : Nat), vs = [.ref p, .int (m : Nat)] ∧ Kn S H ∧ S p ∧ PotAt H p ∧ m ≤ 24 ∧
  ∀ u H' ms, SameBut p H H' → PotAt H' p → ms.Nodup → (∀ n ∈ ms, n < 24) → ms.length = m → Dp K (off S H') u (nL ms) → Q u H'
theorem cut_take (xs : List V) (m : Nat) (h : m ≤ xs.length) : cutV xs none (some (m : Nat)) = xs.take m := by
  unfold cutV
  rw [HT.sIx_none, HT.sIx_nat, List.drop_zero]
  congr 1; omega
theorem ok__law_names (T : Txt K mg a fd C tk) : FnOk P w K mg base CX0 3 (a 42) (fd 42) ["_law_pot_here", "_law_many"] (spNames K) := by
  have G__law_mixed := ok__law_mixed (P := P) (w := w) (base := base) T
  refine T.F__law_names.ok sc__law_names (fun vs H Q E h => by obtain ⟨_, _, _, rfl, _⟩ := h; rfl) (fun cdv A outer s H vs Q E hr h => ?_)
  obtain ⟨S, p, m, rfl, kn, hS, hp, few, q⟩ := h
  refine ⟨_, (pss_one (ps_ret (pe_slice (k_sl (K := K)) (pe_call G__law_mixed (hr.mono (by omega)) (by rfl) T.m__law_mixed T.F__law_mixed.kp T.b__law_mixed .nil pass0 (pa_cons (pv 0) (pa_cons (pe_listRg rfl (by rfl) T.z_list (prg_1 (by rfl) T.z_range pe_int)) pa_nil))) po_none (po_some (pv 1))))), ?_⟩
  have erg : rgV 0 24 = (List.range 24).map fun n : Nat => V.int (n : Nat) := by
    unfold rgV
    exact List.map_congr_left fun n _ => by rw [Int.zero_add]
  refine s_ret (t_call2 (t_var rfl ⟨24, rfl, .of_le (by decide) (by decide) (by decide) (by decide), fun l hl => ?_⟩))
  rw [erg]
  have sl := same_new (o := HO.lst ((List.range 24).map fun n : Nat => V.int (n : Nat))) hl
  have hp1 : PotAt (upd H l (.lst ((List.range 24).map fun n : Nat => V.int (n : Nat)))) p := by obtain ⟨x, y, h, hy⟩ := hp; exact ⟨x, y, sl _ _ h, hy⟩
  refine ⟨S, p, _, List.range 24, rfl, kn.same sl, hS, hp1, dp_newL kn hl (nats_dpa _), by decide, fun u H' ms sb hp' pm du => ?_⟩
  obtain ⟨b, xs, rfl, hs, ha⟩ := list_at (ds := ms.map nD) du
  have ex := dpa_nats ha
  subst ex
  have len := pm.length_eq
  rw [List.length_range] at len
  have knH : Kn S H' := kn_bt (kn.same sl) sb (by obtain ⟨_, _, h, _⟩ := hp'; exact some_ne h)
  refine o_none (o_some (t_var rfl ⟨_, rfl, b, _, rfl, off_sub.seq hs, fun r hr0 => ?_⟩))
  rw [cut_take _ _ (by rw [List.length_map, len]; exact few), ← List.map_take]
  refine q _ _ (ms.take m) (fun c o n h => same_new hr0 _ _ (sb c o n (sl _ _ h))) ?_ ?_ ?_ ?_ (dp_newL knH hr0 (nats_dpa _))
  · obtain ⟨x, y, h, hy⟩ := hp'; exact ⟨x, y, same_new hr0 _ _ h, hy⟩
  · exact ((pm.nodup_iff).mpr List.nodup_range).sublist (List.take_sublist _ _)
  · intro n hn
    exact List.mem_range.mp (pm.mem_iff.mp (List.mem_of_mem_take hn))
  · rw [List.length_take, len]; omega
end
end K31

set_option maxRecDepth 100000
set_option maxHeartbeats 4000000
namespace K31
open PySem PySem.Spec PyProof.Rows L2 Kh
abbrev ivs (ns : List Nat) : List V := ns.map fun n : Nat => V.int (n : Nat)
theorem cut_drop (xs : List V) (m : Nat) (h : m ≤ xs.length) : cutV xs (some (m : Nat)) none = xs.drop m := by
  unfold cutV
  rw [HT.sIx_none, HT.sIx_nat, Nat.min_eq_left h, List.take_of_length_le (by rw [List.length_drop]; omega)]
theorem flat_set {n : Nat} : ∀ {gs : List (List Nat)} {d : Nat} {g : List Nat}, gs[d]? = some g → ((gs.set d (g ++ [n])).flatten).Perm (gs.flatten ++ [n])
  | [], d, g, h => by simp at h
  | g0 :: gs, 0, g, h => by
    simp at h; subst h
    show (g0 ++ [n] ++ gs.flatten).Perm (g0 ++ gs.flatten ++ [n])
    rw [List.append_assoc, List.append_assoc]
    exact (List.perm_append_comm).append_left g0
  | g0 :: gs, d + 1, g, h => by
    show (g0 ++ (gs.set d (g ++ [n])).flatten).Perm (g0 ++ gs.flatten ++ [n])
    rw [List.append_assoc]
    exact (flat_set (gs := gs) (d := d) (by simpa using h)).append_left g0
section
variable {P : Program} {w : World} {K : PySem.W.Frag} {mg : Str → Option Value} {base : Heap} {a : Nat → Addr} {fd : Nat → FuncData} {C : Addr} {tk : Nat → Tok}
theorem min2_of {H : Hp} {Q : VK} {i j m : Int} (e : (if j < i then j else i) = m) (q : Q (.int m) H) : rMin2 [.int i, .int j] H Q := ⟨i, j, rfl, by rw [e]; exact q⟩
theorem t_sl {r : V → Option Int → Option Int → Hp → VK → Prop} {te : TE} {tl th : TO} {σ : L2.St} {H : Hp} {Q : VK} (h : te σ H fun x H1 => tl σ H1 fun l H2 => th σ H2 fun u H3 => r x l u H3 Q) : tSl r te tl th σ H Q := h
def spParted (K : PySem.W.Frag) : Sp := fun vs H Q _ => ∃ (S : Addr → Prop) (p : Addr) (v : V) (ns : List Nat), vs = [.ref p, v] ∧ Kn S H ∧ S p ∧ PotAt H p ∧ Dp K (off S H) v (nL ns) ∧ 2 ≤ ns.length ∧ ns.length ≤ 24 ∧
  ∀ u H' (gs : List (List Nat)), SameBut p H H' → PotAt H' p → gs.flatten.Perm ns → (∀ g ∈ gs, g ≠ []) → 2 ≤ gs.length → gs.length ≤ 24 → Dp K (off S H') u (.list (gs.map nL)) → Q u H'
theorem ok__law_parted (T : Txt K mg a fd C tk) : FnOk P w K mg base CX0 3 (a 43) (fd 43) ["_law_pot_here", "_law_tags"] (spParted K) := by
  have G__law_draw := ok__law_draw (P := P) (w := w) (base := base) T
  have G__law_pick := ok__law_pick (P := P) (w := w) (base := base) T
  refine T.F__law_parted.ok sc__law_parted (fun vs H Q E h => by obtain ⟨_, _, _, _, rfl, _⟩ := h; rfl) (fun cdv A outer s H vs Q E hr h => ?_)
  obtain ⟨S, p, v, ns, rfl, kn, hS, hp, hd, n2, n24, q⟩ := h
  obtain ⟨tl, txs, rfl, hts, hta⟩ := list_at (ds := ns.map nD) hd
  have ex := dpa_nats hta
  subst ex
  refine ⟨_, (pss_cons (ps_set (i := 2) sc__law_parted.nd rfl (Or.inl rfl) (pe_callB (call_min2R rfl) (by rfl) T.z_min (by decide +kernel) (pa_cons (pe_callB (k_len (K := K)) (by rfl) T.z_len (by decide +kernel) (pa_cons (pv 1) pa_nil)) (pa_cons (pe_op op_add pe_int (pe_call G__law_draw (hr.mono (by omega)) (by rfl) T.m__law_draw T.F__law_draw.kp T.b__law_draw .nil pass0 (pa_cons (pv 0) (pa_cons pe_int pa_nil)))) pa_nil))))
      (pss_cons (ps_setLc (i := 3) (own := [("_law_name", 4)]) (g := gName 4) (tt := tYes) rfl sc__law_parted.nd rfl rfl (sw_true rfl rfl rfl (by decide +kernel)) (k_pi (K := K) (pe_slice (k_sl (K := K)) (pv 1) po_none (po_some (pv 2)))) (blkOk_by (own := [("_law_name", 4)]) (N := _law_parted_N) (sc := defScope _law_parted_s) (by decide +kernel)) (fun _ _ _ _ _ => (pg_name (i := 4) sc__law_parted.nd rfl (Or.inl rfl))) (fun _ _ _ _ _ => pts_nil) (fun _ _ _ _ _ => (pe_lst (pa_cons (pv 4) pa_nil))))
      (pss_cons (ps_for PassesOwn.never rfl (k_pi (K := K) (pe_slice (k_sl (K := K)) (pv 1) (po_some (pv 2)) po_none)) (pg_name (i := 4) sc__law_parted.nd rfl (Or.inl rfl))
        (pss_one (ps_expr (pe_bm PySem.F.plainAttrs_list PySem.F.slot_list_append PySem.F.type_list_append mt_append (pe_call G__law_pick (hr.mono (by omega)) (by rfl) T.m__law_pick T.F__law_pick.kp T.b__law_pick .nil pass0 (pa_cons (pv 0) (pa_cons (pv 3) pa_nil))) (pa_cons (pv 4) pa_nil)))))
      (pss_one (ps_ret (pv 3)))))), ?_⟩
  have tags : ∀ {H'}, SameBut p H H' → SqL K (off S H') tl (ivs ns) := fun {H'} sb => (off_bt hS sb).seq hts
  have knB : ∀ {H'}, SameBut p H H' → PotAt H' p → Kn S H' := fun {H'} sb pt => kn_bt kn sb (by obtain ⟨_, _, h, _⟩ := pt; exact some_ne h)
  have mm : ∀ d : Nat, ∃ m : Nat, (if (2 : Int) + (d : Nat) < ((ivs ns).length : Nat) then (2 : Int) + (d : Nat) else ((ivs ns).length : Nat)) = ((m : Nat) : Int) ∧ 2 ≤ m ∧ m ≤ ns.length := fun d => by
    rw [List.length_map]
    by_cases c : (2 : Int) + (d : Nat) < (ns.length : Nat)
    · exact ⟨2 + d, by rw [if_pos c]; omega, by omega, by omega⟩
    · exact ⟨ns.length, by rw [if_neg c], n2, Nat.le_refl _⟩
  refine s_seq (s_set (t_cb2 (t_cb1 (t_var rfl ⟨tl, _, rfl, .inl (off_sub.seq hts), t_op (t_c (t_call2 (t_var rfl (t_c ⟨p, 3, rfl, hp, by decide, by decide, fun d H1 hd3 sb1 hp1 => ⟨_, _, rfl, rfl, ?_⟩⟩))))⟩))))
  obtain ⟨m, hm, m2, mn⟩ := mm d
  refine min2_of hm (nx_of ?_)
  have kn1 := knB sb1 hp1
  -- the first ones, each in a list of its own
  refine s_seq (s_set (.inl (t_sl (t_var rfl (o_none (o_some (t_var rfl ⟨_, rfl, tl, _, rfl, off_sub.seq (tags sb1), fun r hr0 => ?_⟩)))))))
  rw [cut_take _ _ (by rw [List.length_map]; exact mn), ← List.map_take]
  have sr := same_new (o := HO.lst ((ns.take m).map fun n : Nat => V.int (n : Nat))) hr0
  have hrr : (upd H1 r (.lst ((ns.take m).map fun n : Nat => V.int (n : Nat)))) r = some (.lst (ivs (ns.take m))) := upd_same
  generalize upd H1 r (.lst ((ns.take m).map fun n : Nat => V.int (n : Nat))) = H2 at sr hrr
  refine ⟨r, rfl, ⟨_, sqL hrr⟩, fun F hF => ?_⟩
  have hF1 : H1 F = none := sr.free hF
  have rF : r ≠ F := ne_of_none hrr hF
  have lm : (ivs (ns.take m)).length = m := by rw [List.length_map, List.length_take]; omega
  refine lc_it (walk_list (K := K) (a := r) (xs := ivs (ns.take m))) (fun i H' => ∃ ls : List Addr, ls.length = i ∧ H' F = some (.lst (ls.map V.ref)) ∧ (∀ (k : Nat) l n, ls[k]? = some l → ns[k]? = some n → H' l = some (.lst [.int (n : Nat)])) ∧ ls.Nodup ∧ (∀ l ∈ ls, H2 l = none ∧ l ≠ F) ∧ Same H2 H')
    ⟨[], rfl, upd_same, fun k l n h => by simp at h, List.nodup_nil, fun l h => (by cases h), same_new hF⟩ (fun i H' _ ⟨_, _, _, _, _, _, s⟩ => sqL (s _ _ hrr)) ?_ ?_
  · rintro i x H3 H4 hi ⟨ls, ll, hF3, hls, nd, new, s3⟩ ⟨rfl, hx⟩
    rw [lm] at hi
    have hn : i < ns.length := by omega
    rw [List.getElem?_map, List.getElem?_take, if_pos hi, List.getElem?_eq_getElem hn] at hx
    obtain rfl := (Option.some.inj hx).symm
    refine ⟨rfl, t_yes (t_lst (a_cons (t_var rfl (a_nil ⟨le1, fun l hl => ?_⟩))))⟩
    have lF : l ≠ F := fun e => by subst e; rw [hF3] at hl; cases hl
    have sl := same_new (o := HO.lst [V.int (ns[i] : Nat)]) hl
    refine ⟨_, sl _ _ hF3, Nat.lt_of_le_of_lt (show (ls.map V.ref).length ≤ 100000 by rw [List.length_map]; omega) (by decide), ls ++ [l], by rw [List.length_append, ll]; rfl, ?_, ?_, ?_, ?_, ?_⟩
    · rw [upd_same, List.map_append]; rfl
    · intro k l' n h1 h2
      by_cases c : k < ls.length
      · rw [List.getElem?_append_left c] at h1
        have hm' := List.mem_of_getElem? h1
        rw [upd_ne (new l' hm').2]
        exact sl _ _ (hls k l' n h1 h2)
      · rw [List.getElem?_append_right (by omega)] at h1
        have e : k = i := by
          have := (List.getElem?_eq_some_iff.mp h1).1
          simp at this; omega
        subst e
        rw [show k - ls.length = 0 by omega] at h1
        cases h1
        rw [List.getElem?_eq_getElem hn] at h2
        cases h2
        rw [upd_ne lF, upd_same]
    · refine List.nodup_append.mpr ⟨nd, by simp, ?_⟩
      intro x hx y hy e
      rw [List.mem_singleton] at hy
      subst hy; subst e
      obtain ⟨k, hk⟩ := List.mem_iff_getElem?.mp hx
      have hkl := (List.getElem?_eq_some_iff.mp hk).1
      have := hls k x ns[k] hk (List.getElem?_eq_getElem (by omega))
      rw [hl] at this; cases this
    · intro l' hl'
      rcases List.mem_append.mp hl' with h | h
      · exact new l' h
      · rw [List.mem_singleton.mp h]; exact ⟨s3.free hl, lF⟩
    · exact smut (s3.trans sl) hF
  · rintro H3 ⟨ls, ll, hF3, hls, nd, new, s3⟩
    rw [lm] at ll
    refine nx_of ?_
    have hp3 : PotAt H3 p := by obtain ⟨x, y, h, hy⟩ := hp1; exact ⟨x, y, s3 _ _ (sr _ _ h), hy⟩
    have sb3 : SameBut p H H3 := fun b o n h => s3 _ _ (sr _ _ (sb1 b o n h))
    have Fp : F ≠ p := fun e => by subst e; obtain ⟨x, y, h, _⟩ := hp1; rw [hF1] at h; cases h
    have lsp : ∀ l ∈ ls, l ≠ p := fun l hl e => by subst e; obtain ⟨x, y, h, _⟩ := hp1; have := (new l hl).1; rw [sr.free this] at h; cases h
    refine s_seq (.inl (t_sl (t_var rfl (o_some (t_var rfl ⟨_, rfl, o_none ⟨tl, _, rfl, off_sub.seq (tags sb3), fun r2 hr2 => ?_⟩⟩)))))
    rw [cut_drop _ _ (by rw [List.length_map]; exact mn), ← List.map_drop]
    have s4 := same_new (o := HO.lst ((ns.drop m).map fun n : Nat => V.int (n : Nat))) hr2
    have hr4 : (upd H3 r2 (.lst ((ns.drop m).map fun n : Nat => V.int (n : Nat)))) r2 = some (.lst (ivs (ns.drop m))) := upd_same
    generalize upd H3 r2 (.lst ((ns.drop m).map fun n : Nat => V.int (n : Nat))) = H4 at s4 hr4
    have r2n : r2 ≠ p ∧ r2 ∉ ls ∧ r2 ≠ F := by
      refine ⟨fun e => ?_, fun e => ?_, fun e => ?_⟩
      · subst e; obtain ⟨x, y, h, _⟩ := hp3; rw [hr2] at h; cases h
      · obtain ⟨k, hk⟩ := List.mem_iff_getElem?.mp e
        have hkl := (List.getElem?_eq_some_iff.mp hk).1
        have := hls k r2 ns[k] hk (List.getElem?_eq_getElem (by omega))
        rw [hr2] at this; cases this
      · subst e; rw [hr2] at hF3; cases hF3
    have Fls : F ∉ ls := fun h => (new F h).2 rfl
    have ld : (ivs (ns.drop m)).length = ns.length - m := by rw [List.length_map, List.length_drop]
    refine ⟨r2, rfl, ⟨_, sqL hr4⟩, ?_⟩
    refine for_it (walk_list (K := K) (a := r2) (xs := ivs (ns.drop m))) (fun i σ' H' => ∃ (gs : List (List Nat)) (x4 : Option V), σ' = [some (.ref p), some (.ref tl), some (.int (m : Nat)), some (.ref F), x4] ∧ gs.length = ls.length ∧ (∀ (k : Nat) l g, ls[k]? = some l → gs[k]? = some g → H' l = some (.lst (ivs g)) ∧ g ≠ []) ∧
        gs.flatten.Perm (ns.take (m + i)) ∧ PotAt H' p ∧ (∀ b o, b ≠ p → b ∉ ls → H4 b = some o → H' b = some o))
      ⟨(ns.take m).map fun n => [n], _, rfl, by rw [List.length_map, List.length_take, ll]; omega, ?_, ?_, by obtain ⟨x, y, h, hy⟩ := hp3; exact ⟨x, y, s4 _ _ h, hy⟩, fun b o _ _ h => h⟩ (fun i σ' H' _ ⟨_, _, _, _, _, _, _, keep⟩ => sqL (keep r2 _ r2n.1 r2n.2.1 hr4)) ?_ ?_
    · intro k l g h1 h2
      rw [List.getElem?_map] at h2
      cases e : (ns.take m)[k]? with
      | none => rw [e] at h2; cases h2
      | some n =>
        rw [e] at h2
        cases h2
        have : ns[k]? = some n := by
          rw [List.getElem?_take] at e
          split at e
          · exact e
          · cases e
        exact ⟨s4 _ _ (hls k l n h1 this), by simp⟩
    · have e : ∀ l : List Nat, (l.map fun n => [n]).flatten = l := fun l => by
        induction l with
        | nil => rfl
        | cons x l ih => rw [List.map_cons, List.flatten_cons, ih]; rfl
      rw [e]; exact List.Perm.refl _
    · rintro i x σ' H5 H6 hi ⟨gs, x4, rfl, gl, hg, fl, pot, keep⟩ ⟨rfl, hx⟩
      rw [ld] at hi
      have hn : m + i < ns.length := by omega
      rw [List.getElem?_map, List.getElem?_drop, List.getElem?_eq_getElem hn] at hx
      obtain rfl := (Option.some.inj hx).symm
      have hF5 := keep F _ Fp Fls (s4 _ _ hF3)
      refine g_name (s_drop (t_bm (t_call2 (t_var rfl (t_var rfl ⟨p, F, ls.map V.ref, rfl, pot, fun H' sb => sqL (sb _ _ Fp hF5), by rw [List.length_map, ll]; omega, by rw [List.length_map, ll]; omega, fun d x H7 hd sb7 pot7 => ?_⟩)))))
      rw [List.getElem?_map] at hd
      cases ed : ls[d]? with
      | none => rw [ed] at hd; cases hd
      | some l =>
        rw [ed] at hd
        cases hd
        have hdl := (List.getElem?_eq_some_iff.mp ed).1
        have lm' := List.mem_of_getElem? ed
        obtain ⟨g, eg⟩ : ∃ g, gs[d]? = some g := ⟨_, List.getElem?_eq_getElem (by omega)⟩
        obtain ⟨hl5, gne⟩ := hg d l g ed eg
        have hl7 := sb7 _ _ (lsp l lm') hl5
        have glen : g.length ≤ 24 := by
          have h1 := fl.length_eq
          rw [List.length_take] at h1
          have h2 : g.length ≤ gs.flatten.length := (List.sublist_flatten_of_mem (List.mem_of_getElem? eg)).length_le
          omega
        refine ⟨.inl ⟨rfl, _, sqL hl7⟩, a_cons (t_var rfl (a_nil ⟨l, _, _, rfl, rfl, hl7, Nat.lt_of_le_of_lt (show (ivs g).length ≤ 100000 by rw [List.length_map]; omega) (by decide), ?_⟩))⟩
        refine ⟨gs.set d (g ++ [ns[m + i]]), _, rfl, by rw [List.length_set, gl], ?_, ?_, ?_, ?_⟩
        · intro k l' g' h1 h2
          by_cases c : k = d
          · subst c
            rw [ed] at h1; cases h1
            rw [List.getElem?_set_self (by omega)] at h2
            cases h2
            exact ⟨by rw [upd_same]; show _ = some (HO.lst (List.map _ (g ++ [ns[m + i]]))); rw [List.map_append]; rfl, by simp⟩
          · rw [List.getElem?_set_ne (Ne.symm c)] at h2
            have ne : l' ≠ l := fun e => by
              subst e
              have h3 := (List.getElem?_eq_some_iff.mp h1).1
              have e1 : ls[k] = ls[d] := by
                have a1 := (List.getElem?_eq_some_iff.mp h1).2
                have a2 := (List.getElem?_eq_some_iff.mp ed).2
                rw [a1, a2]
              exact c ((List.getElem_inj (h₀ := h3) (h₁ := hdl) nd).mp e1)
            obtain ⟨h5, h6⟩ := hg k l' g' h1 h2
            exact ⟨by rw [upd_ne ne]; exact sb7 _ _ (lsp l' (List.mem_of_getElem? h1)) h5, h6⟩
        · refine (flat_set eg).trans ?_
          rw [← Nat.add_assoc, List.take_add_one, List.getElem?_eq_getElem hn]
          exact fl.append_right _
        · obtain ⟨x, y, h, hy⟩ := pot7
          exact ⟨x, y, by rw [upd_ne (Ne.symm (lsp l lm'))]; exact h, hy⟩
        · intro b o b1 b2 h
          rw [upd_ne (fun e => b2 (by subst e; exact lm'))]
          exact sb7 _ _ b1 (keep b o b1 b2 h)
    · rintro σ' H5 ⟨gs, x4, rfl, gl, hg, fl, pot, keep⟩
      rw [ld, show m + (ns.length - m) = ns.length by omega, List.take_length] at fl
      have hF5 := keep F _ Fp Fls (s4 _ _ hF3)
      refine nx_of (s_ret (t_var rfl (q _ H5 gs ?_ pot fl ?_ (by omega) (by omega) (dp_lst ?_ hF5 ?_))))
      · intro b o n h
        refine keep b o n (fun hb => ?_) (s4 _ _ (sb3 b o n h))
        have := (new b hb).1
        rw [sr _ _ (sb1 b o n h)] at this; cases this
      · intro g hg'
        obtain ⟨k, hk⟩ := List.mem_iff_getElem?.mp hg'
        have hkl := (List.getElem?_eq_some_iff.mp hk).1
        exact (hg k ls[k] g (List.getElem?_eq_getElem (by omega)) hk).2
      · exact kn1.new hF1
      · refine dpa_of (by rw [List.length_map, List.length_map, gl]) fun i v d h1 h2 => ?_
        rw [List.getElem?_map] at h1 h2
        cases e1 : ls[i]? with
        | none => rw [e1] at h1; cases h1
        | some l =>
          cases e2 : gs[i]? with
          | none => rw [e2] at h2; cases h2
          | some g =>
            rw [e1] at h1; rw [e2] at h2
            cases h1; cases h2
            have hl := hg i l g e1 e2
            exact dp_lst (fun z => kn1 l z (sr.free (new l (List.mem_of_getElem? e1)).1)) hl.1 (nats_dpa g)
end
end K31

set_option maxRecDepth 100000
set_option maxHeartbeats 4000000
namespace K31
open PySem PySem.Spec PyProof.Rows L2 Kh
theorem sb_trans {D : Addr} {H H1 H2 : Hp} (x : SameBut D H H1) (y : SameBut D H1 H2) : SameBut D H H2 := fun b o n h => y b o n (x b o n h)
theorem PotAt.same {p : Addr} {H H' : Hp} (h : PotAt H p) (e : Same H H') : PotAt H' p := by obtain ⟨x, y, h, hy⟩ := h; exact ⟨x, y, e _ _ h, hy⟩
theorem PotAt.some {p : Addr} {H : Hp} (h : PotAt H p) : H p ≠ none := by obtain ⟨x, y, h, hy⟩ := h; exact some_ne h
theorem off_plusB {S : Addr → Prop} {p D : Addr} {H1 H : Hp} (hS : S p) (hD : H1 D = none) (s : SameBut p H1 H) : Same (off S H1) (off (plus S D) H) := fun b o h => by
  obtain ⟨n, h⟩ := off_some h
  rw [off_out]
  · exact s b o (fun z => n (z ▸ hS)) h
  · rintro (z | rfl)
    · exact n z
    · rw [hD] at h; cases h
theorem off_keep {S : Addr → Prop} {p : Addr} {H H' : Hp} (hS : S p) (e : SameBut p H H') : Same (off S H) H' := (off_bt hS e).trans off_sub
section
variable {K : PySem.W.Frag} {S : Addr → Prop} {p : Addr} {H1 : Hp} {σ : L2.St} {te : TE} {sl : Nat} {vs : List Nat} {Qd : VK} {J : It} {n : Nat} {G : Hp → Prop} {Y : Nat → Hp → V → Hp → Prop}
/-- [e for ..], e a tree that is drawn -/
theorem lc_pot0 (Xp : Nat → V → (Addr → Prop) → Hp → Prop) (Good : Nat → Kh.T → Prop) (hS : S p) (kn : Kn S H1) (hp : PotAt H1 p) (w : Walk J n G Y) (hG : ∀ H', SameBut p H1 H' → G H') (hn : n ≤ 1000) (hw : ∀ x, wipe ((wipe σ vs).set sl (some x)) vs = wipe σ vs)
    (hY : ∀ D i H x H', H1 D = none → i < n → SameBut p H1 H → Y i H x H' → H' = H ∧ Xp i x (plus S D) H)
    (body : ∀ j x H S', j < n → SameBut p H1 H → PotAt H p → Kn S' H → S' p → Xp j x S' H → ∀ Q : VK, (∀ y H' t, SameBut p H H' → PotAt H' p → Good j t → Dp K (off S' H') y (tD t) → Q y H') → te ((wipe σ vs).set sl (some x)) H Q)
    (done : ∀ D H (ys : List V) (ts : List Kh.T), SameBut p H1 H → PotAt H p → ts.length = n → (∀ j t, ts[j]? = some t → Good j t) → H D = some (.lst ys) → Dp K (off S H) (.ref D) (.list (ts.map tD)) → Qd (.ref D) H) :
    ∀ D, H1 D = none → ∃ W : Nat → Nat → Hp → Prop, (∃ m, W 0 m (upd H1 D (.lst []))) ∧ ∀ i m H, W i m H →
      (J.stop i H ∧ Qd (.ref D) H) ∨ (J.go i H ∧ ∃ Nx : Hp → Prop, (∀ H', Nx H' → ∃ m', m' < m ∧ W (i + 1) m' H') ∧ ∀ x H', J.yld i H x H' → gName sl x (wipe σ vs) H' fun σ2 H2 => wipe σ2 vs = wipe σ vs ∧ tYes σ2 H2 fun b H3 =>
        if b = true then te σ2 H3 fun y H4 => ∃ acc, H4 D = some (.lst acc) ∧ acc.length < sizeLine ∧ Nx (upd H4 D (.lst (acc ++ [y]))) else Nx H3) := by
  intro D hD
  have Dp' : D ≠ p := fun e => by subst e; exact hp.some hD
  refine lc_it (Qd := Qd (.ref D)) w (fun i H' => ∃ (ys : List V) (ts : List Kh.T), ts.length = i ∧ (∀ j t, ts[j]? = some t → Good j t) ∧ DpAll K (off (plus S D) H') ys (ts.map tD) ∧ SameBut p H1 H' ∧ PotAt H' p ∧ H' D = some (.lst ys)) ⟨[], [], rfl, fun j t h => by simp at h, .nil, sbut (same_new hD), hp.same (same_new hD), upd_same⟩ (fun i H _ ⟨_, _, _, _, _, s, _⟩ => hG H s) ?_ ?_
  · rintro i x H H' hi ⟨ys, ts, hl, good, da, sb, pot, hd⟩ y
    obtain ⟨rfl, xp⟩ := hY D i H x H' hD hi sb y
    have knH : Kn (plus S D) H' := (kn_bt kn sb pot.some).plus (some_ne hd)
    refine ⟨hw x, t_yes (body i x H' (plus S D) hi sb pot knH (.inl hS) xp _ fun z H3 t s3 pot3 gt dz => ?_)⟩
    have hd3 := s3 _ _ Dp' hd
    have hl2 := dpa_len da
    rw [List.length_map] at hl2
    refine ⟨ys, hd3, Nat.lt_of_le_of_lt (show ys.length ≤ 100000 by omega) (by decide), ys ++ [z], ts ++ [t], by simp [hl], ?_, ?_, ?_, ?_, upd_same⟩
    · intro j u hj
      by_cases c : j < ts.length
      · rw [List.getElem?_append_left c] at hj
        exact good j u hj
      · rw [List.getElem?_append_right (by omega)] at hj
        have e : j - ts.length = 0 := by
          have := (List.getElem?_eq_some_iff.mp hj).1
          simpa using this
        rw [e] at hj
        cases hj
        rw [show j = i by omega]; exact gt
    · rw [off_mut (show plus S D D from .inr rfl), List.map_append]
      exact dpa_app (dpa_same (off_bt (.inl hS) s3) _ _ da) (.cons dz .nil)
    · exact fun b o n h => by rw [upd_ne (ne_of_none h hD)]; exact s3 b o n (sb b o n h)
    · obtain ⟨x, y, h, hy⟩ := pot3
      exact ⟨x, y, by rw [upd_ne (Ne.symm Dp')]; exact h, hy⟩
  · rintro H ⟨ys, ts, hl, good, da, sb, pot, hd⟩
    exact done D H ys ts sb pot hl good hd (dp_lst (kn.new hD) hd (dpa_same off_fin _ _ da))
end
/-- .. over a list of data -/
theorem lc_pot {K : PySem.W.Frag} {S : Addr → Prop} {p : Addr} {H : Hp} {σ : L2.St} {t te : TE} {sl : Nat} {vs : List Nat} {Q : VK} (Pd : List PyData → Prop) (Good : PyData → Kh.T → Prop) (hS : S p) (kn : Kn S H)
    (hev : ∀ Q : VK, (∀ u H1 ds, SameBut p H H1 → PotAt H1 p → Pd ds → Dp K (off S H1) u (.list ds) → Q u H1) → t σ H Q) (hn : ∀ ds, Pd ds → ds.length ≤ 1000) (hw : ∀ x, wipe ((wipe σ vs).set sl (some x)) vs = wipe σ vs)
    (body : ∀ x d H1 S', SameBut p H H1 → PotAt H1 p → Kn S' H1 → S' p → Dp K (off S' H1) x d → (∃ ds, Pd ds ∧ d ∈ ds) → ∀ Q : VK, (∀ y H' t, SameBut p H1 H' → PotAt H' p → Good d t → Dp K (off S' H') y (tD t) → Q y H') → te ((wipe σ vs).set sl (some x)) H1 Q)
    (done : ∀ D H1 (ds : List PyData) (ts : List Kh.T), SameBut p H H1 → PotAt H1 p → Pd ds → ts.length = ds.length → (∀ (j : Nat) d t, ds[j]? = some d → ts[j]? = some t → Good d t) → Dp K (off S H1) (.ref D) (.list (ts.map tD)) → Q (.ref D) H1) :
    tLc (fun σ H R => iList K t σ H R ∨ iTup K t σ H R) (gName sl) tYes te vs σ H Q := by
  refine .inl (hev _ fun u H1 ds s1 pot pd du => ?_)
  obtain ⟨ra, xs, rfl, hsq, ha⟩ := list_at du
  have ln := dpa_len ha
  have kn1 := kn_bt kn s1 pot.some
  refine ⟨ra, rfl, ⟨xs, off_sub.seq hsq⟩, ?_⟩
  refine lc_pot0 (K := K) (n := xs.length) (G := fun H' => SqL K H' ra xs) (Y := YAt xs) (fun i x S' H' => ∃ d, ds[i]? = some d ∧ Dp K (off S' H') x d) (fun j t => ∃ d, ds[j]? = some d ∧ Good d t) hS kn1 pot walk_list (fun H' sb => (off_keep hS sb).seq hsq) (by rw [ln]; exact hn ds pd) hw (fun D i H2 x H3 hD hi sb y => ⟨y.1, ?_⟩) (fun j x H2 S' hj sb pot2 kn2 hS' xp Q q => ?_) (fun D H2 ys ts sb pot2 hl good hd hD => ?_)
  · obtain ⟨d, dj, dx⟩ := dpa_at ha y.2
    exact ⟨d, dj, dp_same (off_plusB hS hD sb) _ _ dx⟩
  · obtain ⟨d, dj, dx⟩ := xp
    exact body x d H2 S' (sb_trans s1 sb) pot2 kn2 hS' dx ⟨ds, pd, List.mem_of_getElem? dj⟩ Q fun y H' t s' pt g dy => q y H' t s' pt ⟨d, dj, g⟩ dy
  · refine done D H2 ds ts (sb_trans s1 sb) pot2 pd (by rw [hl, ln]) (fun j d t hj ht => ?_) hD
    obtain ⟨d', hd', g⟩ := good j t ht
    rw [hj] at hd'; cases hd'; exact g
section
variable {P : Program} {w : World} {K : PySem.W.Frag} {mg : Str → Option Value} {base : Heap} {a : Nat → Addr} {fd : Nat → FuncData} {C : Addr} {tk : Nat → Tok}
/-- what plain draws -/
structure PlainOf (ns : List Nat) (deep : Nat) (t : Kh.T) : Prop where
  fl : flg false t = t
  wf : Wf t
  dp : dep t ≤ deep
  lv : (lv t).Perm ns
def spPlain (K : PySem.W.Frag) (d : Nat) : Sp := fun vs H Q _ => ∃ (S : Addr → Prop) (p : Addr) (v : V) (ns : List Nat) (deep : Nat), vs = [.ref p, v, .int (deep : Nat)] ∧ Kn S H ∧ S p ∧ PotAt H p ∧ Dp K (off S H) v (nL ns) ∧ 1 ≤ ns.length ∧ ns.length ≤ 24 ∧ (∀ n ∈ ns, n < 24) ∧ deep < d ∧ (1 ≤ deep ∨ ns.length = 1) ∧
  ∀ u H' t, SameBut p H H' → PotAt H' p → PlainOf ns deep t → Dp K (off S H') u (tD t) → Q u H'
theorem leaves_lv : ∀ ns : List Nat, (ns.map Kh.T.leaf).flatMap lv = ns
  | [] => rfl
  | n :: ns => by rw [List.map_cons, List.flatMap_cons, lv_leaf, leaves_lv ns]; rfl
theorem leaves_tD (ns : List Nat) : (ns.map Kh.T.leaf).map tD = ns.map nD := by
  rw [List.map_map]; exact List.map_congr_left fun n _ => by show tD (.leaf n) = nD n; rw [tD_leaf]; rfl
/-- a gate of drawn parts -/
theorem plain_gate {ns : List Nat} {gs : List (List Nat)} {ts : List Kh.T} {deep k : Nat} (hk : 1 ≤ k) (hk2 : k ≤ ts.length) (fl : gs.flatten.Perm ns) (len : ts.length = gs.length) (h : ∀ (j : Nat) g t, gs[j]? = some g → ts[j]? = some t → PlainOf g deep t) : PlainOf ns (deep + 1) (.gate false k ts) := by
  have each : ∀ t ∈ ts, ∃ g, PlainOf g deep t := fun t ht => by
    obtain ⟨j, hj⟩ := List.mem_iff_getElem?.mp ht
    have := (List.getElem?_eq_some_iff.mp hj).1
    exact ⟨gs[j], h j _ t (List.getElem?_eq_getElem (by omega)) hj⟩
  refine ⟨?_, (wf_gate _ _ _).mpr ⟨hk, hk2, fun t ht => (each t ht).elim fun _ e => e.wf⟩, (dep_gate _ _ _).mpr fun t ht => (each t ht).elim fun _ e => e.dp, ?_⟩
  · rw [flg_gate]
    congr 1
    exact (List.map_congr_left fun t ht => (each t ht).elim fun _ e => e.fl).trans (List.map_id ts)
  · rw [lv_gate]
    refine List.Perm.trans ?_ fl
    have go : ∀ (ts : List Kh.T) (gs : List (List Nat)), ts.length = gs.length → (∀ (j : Nat) g t, gs[j]? = some g → ts[j]? = some t → PlainOf g deep t) → (ts.flatMap lv).Perm gs.flatten := by
      intro ts
      induction ts with
      | nil => intro gs hl _; rw [List.eq_nil_of_length_eq_zero hl.symm]; exact List.Perm.refl _
      | cons t ts ih =>
        intro gs hl hh
        cases gs with
        | nil => simp at hl
        | cons g gs =>
          rw [List.flatMap_cons, List.flatten_cons]
          exact ((hh 0 g t rfl rfl).lv).append (ih gs (by simpa using hl) fun j g t h1 h2 => hh (j + 1) g t (by simpa using h1) (by simpa using h2))
    exact go ts gs len h
theorem nL_inj {g h : List Nat} (e : nL g = nL h) : g = h := by
  have e1 : g.map nD = h.map nD := PyData.list.inj e
  have go : ∀ g h : List Nat, g.map nD = h.map nD → g = h := by
    intro g
    induction g with
    | nil => intro h e; cases h with
      | nil => rfl
      | cons y h => cases e
    | cons x g ih => intro h e; cases h with
      | nil => cases e
      | cons y h =>
        have e3 := List.cons.inj e
        have e4 := PyData.int.inj e3.1
        rw [ih h e3.2, show x = y by omega]
  exact go g h e1
theorem dec_int (n m : Nat) : decide (V.int (n : Nat) = V.int (m : Nat)) = decide (n = m) := decide_eq_decide.mpr ⟨fun h => by have := V.int.inj h; omega, fun h => by rw [h]⟩
theorem ok__law_plain (T : Txt K mg a fd C tk) : ∀ d, FnOk P w K mg base CX0 (d + 3) (a 44) (fd 44) ["_law_pot_here", "_law_tags", "_law_deep"] (spPlain K d)
  | 0 => fn_none fun _ _ _ _ h => by obtain ⟨_, _, _, _, _, _, _, _, _, _, _, _, _, h, _⟩ := h; exact Nat.not_lt_zero _ h
  | d + 1 => by
    have G__law_plain := ok__law_plain T d
    have G__law_draw := ok__law_draw (P := P) (w := w) (base := base) T
    have G__law_parted := ok__law_parted (P := P) (w := w) (base := base) T
    refine T.F__law_plain.ok sc__law_plain (fun vs H Q E h => by obtain ⟨_, _, _, _, _, rfl, _⟩ := h; rfl) (fun cdv A outer s H vs Q E hr h => ?_)
    obtain ⟨S, p, v, ns, deep, rfl, kn, hS, hp, hd, n1, n24, lt24, hdd, hor, q⟩ := h
    refine ⟨_, (pss_cons (ps_if (PW.pt (pw_and (pt_cmpR op_eq (pe_callB (k_len (K := K)) (by rfl) T.z_len (by decide +kernel) (pa_cons (pv 1) pa_nil)) pe_int (nomark _)) (pw_and1 (PW.pt (pw_or (pt_cmpR op_eq (pv 2) pe_int (nomark _)) (pw_or1 (pt_cmpR op_gt (pe_call G__law_draw (hr.mono (by omega)) (by rfl) T.m__law_draw T.F__law_draw.kp T.b__law_draw .nil pass0 (pa_cons (pv 0) (pa_cons pe_int pa_nil))) pe_int (nomark _))))))))
        (pss_one (ps_ret (pe_ix (k_ix (K := K)) (pv 1) pe_int (fun _ _ => rfl)))) pss_nil)
      (pss_cons (ps_if (pt_cmpR op_eq (pe_callB (k_len (K := K)) (by rfl) T.z_len (by decide +kernel) (pa_cons (pv 1) pa_nil)) pe_int (nomark _))
        (pss_one (ps_ret (pe_tup (pa_cons pe_str (pa_cons pe_int (pa_cons (pe_lst (pa_cons (pe_call G__law_plain (hr.mono (by omega)) (by rfl) T.m__law_plain T.F__law_plain.kp T.b__law_plain .nil pass0 (pa_cons (pv 0) (pa_cons (pv 1) (pa_cons (pe_op op_sub (pv 2) pe_int) pa_nil)))) pa_nil)) pa_nil)))))) pss_nil)
      (pss_cons (ps_if (pt_cmpR op_lt (pv 2) pe_int (nomark _))
        (pss_one (ps_ret (pe_tup (pa_cons pe_str (pa_cons (pe_op op_add pe_int (pe_call G__law_draw (hr.mono (by omega)) (by rfl) T.m__law_draw T.F__law_draw.kp T.b__law_draw .nil pass0 (pa_cons (pv 0) (pa_cons (pe_callB (k_len (K := K)) (by rfl) T.z_len (by decide +kernel) (pa_cons (pv 1) pa_nil)) pa_nil)))) (pa_cons (pe_callTy (k_list (K := K)) (by rfl) T.z_list (by decide +kernel) (pa_cons (pv 1) pa_nil)) pa_nil)))))) pss_nil)
      (pss_cons (ps_setLc (i := 3) (own := [("_law_part", 4)]) (g := gName 4) (tt := tYes) rfl sc__law_plain.nd rfl rfl (sw_true rfl rfl rfl (by decide +kernel)) (k_pi (K := K) (pe_call G__law_parted (hr.mono (by omega)) (by rfl) T.m__law_parted T.F__law_parted.kp T.b__law_parted .nil pass0 (pa_cons (pv 0) (pa_cons (pv 1) pa_nil)))) (blkOk_by (own := [("_law_part", 4)]) (N := _law_plain_N) (sc := defScope _law_plain_s) (by decide +kernel)) (fun _ _ _ _ _ => (pg_name (i := 4) sc__law_plain.nd rfl (Or.inl rfl))) (fun _ _ _ _ _ => pts_nil) (fun _ _ _ _ _ => (pe_call G__law_plain (hr.mono (by omega)) (by rfl) T.m__law_plain T.F__law_plain.kp T.b__law_plain .nil pass0 (pa_cons (pv 0) (pa_cons (pv 4) (pa_cons (pe_op op_sub (pv 2) pe_int) pa_nil))))))
      (pss_one (ps_ret (pe_tup (pa_cons pe_str (pa_cons (pe_op op_add pe_int (pe_call G__law_draw (hr.mono (by omega)) (by rfl) T.m__law_draw T.F__law_draw.kp T.b__law_draw .nil pass0 (pa_cons (pv 0) (pa_cons (pe_callB (k_len (K := K)) (by rfl) T.z_len (by decide +kernel) (pa_cons (pv 3) pa_nil)) pa_nil)))) (pa_cons (pv 3) pa_nil)))))))))), ?_⟩
    have knB : ∀ {H'}, SameBut p H H' → PotAt H' p → Kn S H' := fun {H'} sb pt => kn_bt kn sb pt.some
    have hdB : ∀ {H'}, SameBut p H H' → Dp K (off S H') v (nL ns) := fun {H'} sb => dp_same (off_bt hS sb) _ _ hd
    -- a single one
    have one : ∀ {H'} {n : Nat}, ns = [n] → SameBut p H H' → PotAt H' p → ∀ {Q' : VK}, (∀ u H', SameBut p H H' → PotAt H' p → Dp K (off S H') u (tD (.leaf n)) → Q' u H') → rIx K v (.int 0) H' Q' := by
      intro H' n e sb pt Q' q'
      subst e
      refine ix_d (i := 0) off_sub (hdB sb) rfl rfl fun u du => q' u H' sb pt ?_
      rw [tD_leaf]; exact du
    have leaf1 : ∀ {n : Nat} {dd : Nat}, ns = [n] → PlainOf ns dd (.leaf n) := fun {n dd} e => by
      subst e
      exact ⟨flg_leaf _ _, by rw [Wf]; exact lt24 n (by simp), by simp [dep], by rw [lv_leaf]⟩
    refine s_seq (s_if (b_and (b_test (t_op (t_cb1 (t_var rfl (len_d off_sub hd (ds := ns.map nD) rfl (t_c ⟨rfl, _, rfl, ?_⟩))))))))
    rw [List.length_map]
    by_cases l1 : ns.length = 1
    · obtain ⟨n, en⟩ : ∃ n, ns = [n] := by
        match ns, l1 with
        | [n], _ => exact ⟨n, rfl⟩
      refine ifT ((dec_int ns.length 1).trans (decide_eq_true l1)) (b_or (b_test (t_op (t_var rfl (t_c ⟨rfl, _, rfl, ?_⟩)))))
      by_cases d0 : deep = 0
      · refine ifT ((dec_int deep 0).trans (decide_eq_true d0)) (ifT rfl (s_ret (t_op (t_var rfl (t_c (one en (sbut (Same.refl _)) hp fun u H' sb pt du => q u H' _ sb pt (leaf1 en) du))))))
      · refine ifF ((dec_int deep 0).trans (decide_eq_false d0)) (b_test (t_op (t_call2 (t_var rfl (t_c ⟨p, 5, rfl, hp, by decide, by decide, fun r H1 hr5 sb1 pt1 => t_c ⟨_, _, rfl, rfl, _, rfl, ?_⟩⟩)))))
        refine if_b (fun c => s_ret (t_op (t_var rfl (t_c (one en sb1 pt1 fun u H' sb pt du => q u H' _ sb pt (leaf1 en) du))))) (fun c => s_next ?_)
        refine s_seq (s_if (b_test (t_op (t_cb1 (t_var rfl (len_d off_sub (hdB sb1) (ds := ns.map nD) rfl (t_c ⟨rfl, _, rfl, ?_⟩)))))))
        rw [List.length_map]
        refine ifT ((dec_int ns.length 1).trans (decide_eq_true l1)) ?_
        refine s_ret (t_tup (a_cons (t_c (a_cons (t_c (a_cons (t_lst (a_cons (t_call3 (t_var rfl (t_var rfl (t_op (t_var rfl (t_c ⟨_, _, rfl, rfl, ?_⟩))))))))))))))
        have e1 : ((deep : Nat) : Int) - 1 = ((deep - 1 : Nat) : Int) := by omega
        refine ⟨S, p, v, ns, deep - 1, (by show [V.ref p, v, V.int ((deep : Nat) - 1)] = _; rw [e1]), knB sb1 pt1, hS, pt1, hdB sb1, n1, n24, lt24, by omega, .inr l1, fun u H2 t sb2 pt2 pl du => ⟨le1, fun x hx => ?_⟩⟩
        have kn2 := knB (sb_trans sb1 sb2) pt2
        have sx := same_new (o := HO.lst [u]) hx
        have dl := dp_newL kn2 hx (.cons du .nil)
        refine ⟨le3, fun y hy => q _ _ (.gate false 1 [t]) (fun b o n h => same_new hy _ _ (sx _ _ (sb_trans sb1 sb2 b o n h))) ((pt2.same sx).same (same_new hy)) ?_ ?_⟩
        · have := plain_gate (ns := ns) (gs := [ns]) (ts := [t]) (deep := deep - 1) (k := 1) (Nat.le_refl _) (Nat.le_refl _) (by simp) rfl (fun j g t' h1 h2 => by
            match j with
            | 0 => cases h1; cases h2; exact pl
            | j + 1 => simp at h1)
          rwa [show deep - 1 + 1 = deep by omega] at this
        · rw [tD_gate]
          exact dp_newT (kn2.same sx) hy (.cons (.str _) (.cons (.int 1) (.cons dl .nil)))
    · have l2 : 2 ≤ ns.length := by omega
      refine ifF ((dec_int ns.length 1).trans (decide_eq_false l1)) (ifF rfl (s_next ?_))
      refine s_seq (s_if (b_test (t_op (t_cb1 (t_var rfl (len_d off_sub hd (ds := ns.map nD) rfl (t_c ⟨rfl, _, rfl, ?_⟩)))))))
      rw [List.length_map]
      refine ifF ((dec_int ns.length 1).trans (decide_eq_false l1)) (s_next ?_)
      refine s_seq (s_if (b_test (t_op (t_var rfl (t_c ⟨_, _, rfl, rfl, _, rfl, ?_⟩)))))
      have dr : ∀ {m : Nat} {r : Nat}, r < m → (1 : Int) + (r : Nat) = ((1 + r : Nat) : Int) := fun {m r} _ => by omega
      refine if_b (fun c => ?_) (fun c => s_next ?_)
      · refine s_ret (t_tup (a_cons (t_c (a_cons (t_op (t_c (t_call2 (t_var rfl (t_cb1 (t_var rfl (len_d off_sub hd (ds := ns.map nD) rfl ?_)))))))))))
        rw [List.length_map]
        refine ⟨p, ns.length, rfl, hp, by omega, by omega, fun r H1 hr1 sb1 pt1 => ⟨_, _, rfl, rfl, ?_⟩⟩
        refine a_cons (t_cb1 (t_var rfl (list_d (knB sb1 pt1) (hdB sb1) rfl fun l xs hl ha dl => a_nil ⟨le3, fun y hy => ?_⟩)))
        have sl := same_new (o := HO.lst xs) hl
        refine q _ _ (.gate false (1 + r) (ns.map Kh.T.leaf)) (fun b o n h => same_new hy _ _ (sl _ _ (sb1 b o n h))) ((pt1.same sl).same (same_new hy)) ⟨?_, ?_, ?_, ?_⟩ ?_
        · rw [flg_gate, List.map_map]
          congr 1
        · refine (wf_gate _ _ _).mpr ⟨by omega, by rw [List.length_map]; omega, fun t ht => ?_⟩
          obtain ⟨n, hn, rfl⟩ := List.mem_map.mp ht
          rw [Wf]; exact lt24 n hn
        · obtain ⟨e, he⟩ : ∃ e, deep = e + 1 := ⟨deep - 1, by omega⟩
          rw [he]
          refine (dep_gate _ _ _).mpr fun t ht => ?_
          obtain ⟨n, hn, rfl⟩ := List.mem_map.mp ht
          simp [dep]
        · rw [lv_gate, leaves_lv]
        · rw [tD_gate, leaves_tD]
          refine dp_newT ((knB sb1 pt1).same sl) hy (.cons (.str _) (.cons (dp_int (by omega)) (.cons dl .nil)))
      · have d2 : 2 ≤ deep := by have := of_decide_eq_false c; omega
        refine s_seq (s_set (lc_pot (Pd := fun ds => ∃ gs : List (List Nat), ds = gs.map nL ∧ gs.flatten.Perm ns ∧ (∀ g ∈ gs, g ≠ []) ∧ 2 ≤ gs.length ∧ gs.length ≤ 24) (Good := fun d t => ∃ g, d = nL g ∧ PlainOf g (deep - 1) t) hS kn (fun Q' q' => ?_) (fun ds h => ?_) (fun _ => rfl) (fun x dd H1 S' sb1 pt1 kn1 hS' dx hds Q' q' => ?_) fun D H1 ds ts sb1 pt1 pd hl good dD => ?_))
        · refine t_call2 (t_var rfl (t_var rfl ⟨S, p, v, ns, rfl, kn, hS, hp, hd, l2, n24, fun u H1 gs sb1 pt1 fl ne g2 g24 du => q' u H1 _ sb1 pt1 ⟨gs, rfl, fl, ne, g2, g24⟩ du⟩))
        · obtain ⟨gs, rfl, _, _, _, g24⟩ := h
          rw [List.length_map]; omega
        · obtain ⟨ds, ⟨gs, rfl, fl, ne, g2, g24⟩, hm⟩ := hds
          obtain ⟨g, hg, rfl⟩ := List.mem_map.mp hm
          have sub := List.sublist_flatten_of_mem hg
          have e1 : ((deep : Nat) : Int) - 1 = ((deep - 1 : Nat) : Int) := by omega
          refine t_call3 (t_var rfl (t_var rfl (t_op (t_var rfl (t_c ⟨_, _, rfl, rfl, S', p, x, g, deep - 1, (by show [V.ref p, x, V.int ((deep : Nat) - 1)] = _; rw [e1]), kn1, hS', pt1, dx, List.length_pos_iff.mpr (ne g hg), ?_, fun n hn => ?_, by omega, .inl (by omega), fun u H2 t sb2 pt2 pl du => q' u H2 t sb2 pt2 ⟨g, rfl, pl⟩ du⟩)))))
          · have := sub.length_le
            rw [fl.length_eq] at this; omega
          · exact lt24 n (fl.mem_iff.mp (sub.subset hn))
        · obtain ⟨gs, rfl, fl, ne, g2, g24⟩ := pd
          rw [List.length_map] at hl
          have kn1 := knB sb1 pt1
          refine s_ret (t_tup (a_cons (t_c (a_cons (t_op (t_c (t_call2 (t_var rfl (t_cb1 (t_var rfl (len_d off_sub dD rfl ?_)))))))))))
          rw [List.length_map]
          refine ⟨p, ts.length, rfl, pt1, by omega, by omega, fun r H2 hr2 sb2 pt2 => ⟨_, _, rfl, rfl, a_cons (t_var rfl (a_nil ⟨le3, fun y hy => ?_⟩))⟩⟩
          have dD2 := dp_same (off_bt hS sb2) _ _ dD
          have kn2 := knB (sb_trans sb1 sb2) pt2
          refine q _ _ (.gate false (1 + r) ts) (fun b o n h => same_new hy _ _ (sb_trans sb1 sb2 b o n h)) (pt2.same (same_new hy)) ?_ ?_
          · have := plain_gate (ns := ns) (gs := gs) (ts := ts) (deep := deep - 1) (k := 1 + r) (by omega) (by omega) fl hl (fun j g t h1 h2 => by
              obtain ⟨g', e, pl⟩ := good j (nL g) t (by rw [List.getElem?_map, h1]; rfl) h2
              have e2 : g = g' := nL_inj e
              rw [e2]; exact pl)
            rwa [show deep - 1 + 1 = deep by omega] at this
          · rw [tD_gate]
            exact dp_newT kn2 hy (.cons (.str _) (.cons (dp_int (by omega)) (.cons dD2 .nil)))
end
end K31

set_option maxRecDepth 100000
set_option maxHeartbeats 4000000
namespace K31
open PySem PySem.Spec PyProof.Rows L2 Kh
section
variable {P : Program} {w : World} {K : PySem.W.Frag} {mg : Str → Option Value} {base : Heap} {a : Nat → Addr} {fd : Nat → FuncData} {C : Addr} {tk : Nat → Tok}
/-- what any draws -/
structure AnyOf (ns : List Nat) (deep : Nat) (t : Kh.T) : Prop where
  fl : flg false t = t
  wf : Wf t
  dp : dep t ≤ deep
  lv : ∀ n ∈ lv t, n ∈ ns
  len : (Kh.lv t).length ≤ 3 ^ deep
theorem r_rng {ta : TA} {σ : L2.St} {H : Hp} {R : It → Hp → Prop} (h : ta σ H fun vs H1 => ∃ j : Int, vs = [.int j] ∧ -(2 ^ 62) ≤ j ∧ j < 2 ^ 62 ∧ R (Itr 0 j.toNat) H1) : iRng1 ta σ H R := h
theorem lc_potR {K : PySem.W.Frag} {S : Addr → Prop} {p : Addr} {H : Hp} {σ : L2.St} {ta : TA} {te : TE} {sl : Nat} {vs : List Nat} {Q : VK} (Pn : Nat → Prop) (Xp : V → (Addr → Prop) → Hp → Prop) (Good : Kh.T → Prop) (hS : S p) (kn : Kn S H)
    (hev : ∀ q : List V → Hp → Prop, (∀ H1 (n : Nat), SameBut p H H1 → PotAt H1 p → Pn n → q [.int (n : Nat)] H1) → ta σ H q) (hn : ∀ n, Pn n → n ≤ 1000) (hw : ∀ x, wipe ((wipe σ vs).set sl (some x)) vs = wipe σ vs)
    (hX : ∀ D H1 x, H D = none → SameBut p H H1 → Xp x (plus S D) H1)
    (body : ∀ x H1 S', SameBut p H H1 → PotAt H1 p → Kn S' H1 → S' p → Xp x S' H1 → ∀ Q : VK, (∀ y H' t, SameBut p H1 H' → PotAt H' p → Good t → Dp K (off S' H') y (tD t) → Q y H') → te ((wipe σ vs).set sl (some x)) H1 Q)
    (done : ∀ D H1 (n : Nat) (ts : List Kh.T), SameBut p H H1 → PotAt H1 p → Pn n → ts.length = n → (∀ t ∈ ts, Good t) → Dp K (off S H1) (.ref D) (.list (ts.map tD)) → Q (.ref D) H1) :
    tLc (iRng1 ta) (gName sl) tYes te vs σ H Q := by
  refine hev _ fun H1 n s1 pot pn => ⟨(n : Nat), rfl, by have := hn n pn; omega, by have := hn n pn; omega, ?_⟩
  have kn1 := kn_bt kn s1 pot.some
  refine lc_pot0 (K := K) (n := n) (G := fun _ => True) (Y := YFn fun i => .int (0 + i)) (fun i x S' H' => Xp x S' H') (fun j t => Good t) hS kn1 pot walk_range (fun _ _ => trivial) (hn n pn) hw (fun D i H2 x H3 hD hi sb y => ⟨y.1, ?_⟩) (fun j x H2 S' hj sb pot2 kn2 hS' xp Q q => body x H2 S' (sb_trans s1 sb) pot2 kn2 hS' xp Q q) (fun D H2 ys ts sb pot2 hl good hd hD => ?_)
  · exact hX D H2 x (by
      by_cases e : D = p
      · subst e; exact (pot.some hD).elim
      · cases h : H D with
        | none => rfl
        | some o => rw [s1 D o e h] at hD; cases hD) (sb_trans s1 sb)
  · refine done D H2 n ts (sb_trans s1 sb) pot2 pn hl (fun t ht => ?_) hD
    obtain ⟨j, hj⟩ := List.mem_iff_getElem?.mp ht
    exact good j t hj
def spAny (K : PySem.W.Frag) (d : Nat) : Sp := fun vs H Q _ => ∃ (S : Addr → Prop) (p : Addr) (v : V) (ns : List Nat) (deep : Nat), vs = [.ref p, v, .int (deep : Nat)] ∧ Kn S H ∧ S p ∧ PotAt H p ∧ Dp K (off S H) v (nL ns) ∧ 1 ≤ ns.length ∧ ns.length ≤ 24 ∧ (∀ n ∈ ns, n < 24) ∧ deep < d ∧
  ∀ u H' t, SameBut p H H' → PotAt H' p → AnyOf ns deep t → Dp K (off S H') u (tD t) → Q u H'
theorem any_gate {ns : List Nat} {ts : List Kh.T} {deep k : Nat} (hk : 1 ≤ k) (hk2 : k ≤ ts.length) (hl : ts.length ≤ 3) (h : ∀ t ∈ ts, AnyOf ns deep t) : AnyOf ns (deep + 1) (.gate false k ts) := by
  refine ⟨?_, (wf_gate _ _ _).mpr ⟨hk, hk2, fun t ht => (h t ht).wf⟩, (dep_gate _ _ _).mpr fun t ht => (h t ht).dp, fun n hn => ?_, ?_⟩
  · rw [flg_gate]
    congr 1
    exact (List.map_congr_left fun t ht => (h t ht).fl).trans (List.map_id ts)
  · rw [lv_gate] at hn
    obtain ⟨t, ht, hn⟩ := List.mem_flatMap.mp hn
    exact (h t ht).lv n hn
  · rw [lv_gate, Nat.pow_succ]
    have go : ∀ us : List Kh.T, (∀ t ∈ us, AnyOf ns deep t) → (us.flatMap lv).length ≤ 3 ^ deep * us.length := by
      intro us
      induction us with
      | nil => intro _; exact Nat.zero_le _
      | cons t us ih =>
        intro hh
        rw [List.flatMap_cons, List.length_append, List.length_cons, Nat.mul_add, Nat.mul_one]
        have h1 := (hh t List.mem_cons_self).len
        have h2 := ih fun u hu => hh u (List.mem_cons_of_mem _ hu)
        omega
    exact Nat.le_trans (go ts h) (Nat.mul_le_mul_left _ hl)
theorem ok__law_any (T : Txt K mg a fd C tk) : ∀ d, FnOk P w K mg base CX0 (d + 3) (a 45) (fd 45) ["_law_pot_here", "_law_tags", "_law_deep"] (spAny K d)
  | 0 => fn_none fun _ _ _ _ h => by obtain ⟨_, _, _, _, _, _, _, _, _, _, _, _, _, h, _⟩ := h; exact Nat.not_lt_zero _ h
  | d + 1 => by
    have G__law_any := ok__law_any T d
    have G__law_draw := ok__law_draw (P := P) (w := w) (base := base) T
    have G__law_pick := ok__law_pick (P := P) (w := w) (base := base) T
    refine T.F__law_any.ok sc__law_any (fun vs H Q E h => by obtain ⟨_, _, _, _, _, rfl, _⟩ := h; rfl) (fun cdv A outer s H vs Q E hr h => ?_)
    obtain ⟨S, p, v, ns, deep, rfl, kn, hS, hp, hd, n1, n24, lt24, hdd, q⟩ := h
    refine ⟨_, (pss_cons (ps_if (PW.pt (pw_or (pt_cmpR op_eq (pv 2) pe_int (nomark _)) (pw_or1 (pt_cmpR op_eq (pe_call G__law_draw (hr.mono (by omega)) (by rfl) T.m__law_draw T.F__law_draw.kp T.b__law_draw .nil pass0 (pa_cons (pv 0) (pa_cons pe_int pa_nil))) pe_int (nomark _)))))
        (pss_one (ps_ret (pe_call G__law_pick (hr.mono (by omega)) (by rfl) T.m__law_pick T.F__law_pick.kp T.b__law_pick .nil pass0 (pa_cons (pv 0) (pa_cons (pv 1) pa_nil))))) pss_nil)
      (pss_cons (ps_setLc (i := 3) (own := [("_law_turn", 4)]) (g := gName 4) (tt := tYes) rfl sc__law_any.nd rfl rfl (sw_true rfl rfl rfl (by decide +kernel)) (pi_range1 (by rfl) T.z_range (pa_cons (pe_op op_add pe_int (pe_call G__law_draw (hr.mono (by omega)) (by rfl) T.m__law_draw T.F__law_draw.kp T.b__law_draw .nil pass0 (pa_cons (pv 0) (pa_cons pe_int pa_nil)))) pa_nil)) (blkOk_by (own := [("_law_turn", 4)]) (N := _law_any_N) (sc := defScope _law_any_s) (by decide +kernel)) (fun _ _ _ _ _ => (pg_name (i := 4) sc__law_any.nd rfl (Or.inl rfl))) (fun _ _ _ _ _ => pts_nil) (fun _ _ _ _ _ => (pe_call G__law_any (hr.mono (by omega)) (by rfl) T.m__law_any T.F__law_any.kp T.b__law_any .nil pass0 (pa_cons (pv 0) (pa_cons (pv 1) (pa_cons (pe_op op_sub (pv 2) pe_int) pa_nil))))))
      (pss_one (ps_ret (pe_tup (pa_cons pe_str (pa_cons (pe_op op_add pe_int (pe_call G__law_draw (hr.mono (by omega)) (by rfl) T.m__law_draw T.F__law_draw.kp T.b__law_draw .nil pass0 (pa_cons (pv 0) (pa_cons (pe_callB (k_len (K := K)) (by rfl) T.z_len (by decide +kernel) (pa_cons (pv 3) pa_nil)) pa_nil)))) (pa_cons (pv 3) pa_nil)))))))), ?_⟩
    have knB : ∀ {H'}, SameBut p H H' → PotAt H' p → Kn S H' := fun {H'} sb pt => kn_bt kn sb pt.some
    have hdB : ∀ {H'}, SameBut p H H' → Dp K (off S H') v (nL ns) := fun {H'} sb => dp_same (off_bt hS sb) _ _ hd
    obtain ⟨tl, txs, rfl, hts, hta⟩ := list_at (ds := ns.map nD) hd
    have ex := dpa_nats hta
    subst ex
    have pick : ∀ {H1 : Hp}, SameBut p H H1 → PotAt H1 p → spPick K [.ref p, .ref tl] H1 Q E0 := fun {H1} sb pt => by
      refine ⟨p, tl, _, rfl, pt, fun H' sb' => off_sub.seq ((off_bt hS (sb_trans sb sb')).seq hts), by rw [List.length_map]; omega, by rw [List.length_map]; omega, fun d x H2 hx sb2 pt2 => ?_⟩
      rw [List.getElem?_map] at hx
      cases e : ns[d]? with
      | none => rw [e] at hx; cases hx
      | some n =>
        rw [e] at hx
        cases hx
        have hm := List.mem_of_getElem? e
        refine q _ H2 (.leaf n) (sb_trans sb sb2) pt2 ⟨flg_leaf _ _, by rw [Wf]; exact lt24 n hm, by simp [dep], fun m hm' => by rw [lv_leaf] at hm'; rw [List.mem_singleton.mp hm']; exact hm, by rw [lv_leaf]; exact Nat.one_le_pow _ _ (by decide)⟩ ?_
        rw [tD_leaf]; exact .int _
    refine s_seq (s_if (b_or (b_test (t_op (t_var rfl (t_c ⟨rfl, _, rfl, ?_⟩))))))
    by_cases d0 : deep = 0
    · exact ifT ((dec_int deep 0).trans (decide_eq_true d0)) (ifT rfl (s_ret (t_call2 (t_var rfl (t_var rfl (pick (sbut (Same.refl H)) hp))))))
    · refine ifF ((dec_int deep 0).trans (decide_eq_false d0)) (b_test (t_op (t_call2 (t_var rfl (t_c ⟨p, 4, rfl, hp, by decide, by decide, fun r H1 hr4 sb1 pt1 => t_c ⟨rfl, _, rfl, ?_⟩⟩)))))
      refine if_b (fun c => s_ret (t_call2 (t_var rfl (t_var rfl (pick sb1 pt1))))) (fun c => s_next ?_)
      have kn1 := knB sb1 pt1
      refine s_seq (s_set ?_)
      refine lc_potR (K := K) (Pn := fun n => 1 ≤ n ∧ n ≤ 3) (Xp := fun _ S' H' => Dp K (off S' H') (.ref tl) (nL ns)) (Good := fun t => AnyOf ns (deep - 1) t) hS kn1 (fun q' h' => ?_) (fun n h => by omega) (fun _ => rfl) (fun D H3 x hD sb => dp_same (off_plusB hS hD sb) _ _ (hdB sb1)) (fun x H3 S' sb pt kn3 hS' dt Q' q' => ?_) fun D H3 n ts sb pt hpn hl good dD => ?_
      · refine a_cons (t_op (t_c (t_call2 (t_var rfl (t_c ⟨p, 3, rfl, pt1, by decide, by decide, fun r3 H2 hr3 sb2 pt2 => ⟨_, _, rfl, rfl, a_nil ?_⟩⟩)))))
        have e3 : (1 : Int) + (r3 : Nat) = ((1 + r3 : Nat) : Int) := by omega
        have := h' H2 (1 + r3) sb2 pt2 ⟨by omega, by omega⟩
        rw [← e3] at this
        exact this
      · have e1 : ((deep : Nat) : Int) - 1 = ((deep - 1 : Nat) : Int) := by omega
        exact t_call3 (t_var rfl (t_var rfl (t_op (t_var rfl (t_c ⟨_, _, rfl, rfl, S', p, .ref tl, ns, deep - 1, (by show [V.ref p, V.ref tl, V.int ((deep : Nat) - 1)] = _; rw [e1]), kn3, hS', pt, dt, n1, n24, lt24, by omega, fun u H4 t sb4 pt4 an du => q' u H4 t sb4 pt4 an du⟩)))))
      · have sb3 := sb_trans sb1 sb
        have kn3 := knB sb3 pt
        refine nx_of (s_ret (t_tup (a_cons (t_c (a_cons (t_op (t_c (t_call2 (t_var rfl (t_cb1 (t_var rfl (len_d off_sub dD rfl ?_))))))))))))
        rw [List.length_map]
        refine ⟨p, ts.length, rfl, pt, by omega, by omega, fun r5 H4 hr5 sb4 pt4 => ⟨_, _, rfl, rfl, a_cons (t_var rfl (a_nil ⟨le3, fun y hy => ?_⟩))⟩⟩
        have dD4 := dp_same (off_bt hS sb4) _ _ dD
        refine q _ _ (.gate false (1 + r5) ts) (fun b o n h => same_new hy _ _ (sb_trans sb3 sb4 b o n h)) (pt4.same (same_new hy)) ?_ ?_
        · have := any_gate (ns := ns) (ts := ts) (deep := deep - 1) (k := 1 + r5) (by omega) (by omega) (by omega) good
          rwa [show deep - 1 + 1 = deep by omega] at this
        · rw [tD_gate]
          exact dp_newT (knB (sb_trans sb3 sb4) pt4) hy (.cons (.str _) (.cons (dp_int (by omega)) (.cons dD4 .nil)))
end
end K31

set_option maxRecDepth 100000
set_option maxHeartbeats 4000000
namespace K31
open PySem PySem.Spec PyProof.Rows L2 Kh
theorem sub_len : ∀ {l ns : List Nat}, l.Nodup → (∀ n ∈ l, n ∈ ns) → l.length ≤ ns.length
  | [], _, _, _ => Nat.zero_le _
  | x :: l, ns, nd, h => by
    have hx := h x List.mem_cons_self
    have nd' := List.nodup_cons.mp nd
    have ih := sub_len (l := l) (ns := ns.erase x) nd'.2 fun n hn => (List.mem_erase_of_ne (fun e : n = x => nd'.1 (by rw [← e]; exact hn))).mpr (h n (List.mem_cons_of_mem _ hn))
    rw [List.length_erase_of_mem hx] at ih
    have := List.length_pos_of_mem hx
    rw [List.length_cons]; omega
/-- what shape draws -/
structure ShpOf (most : Nat) (t : Kh.T) : Prop where
  fl : flg false t = t
  wf : Wf t
  dp : dep t ≤ 3
  len : (lv t).length ≤ 9
  mem : (mem t).length ≤ most
section
variable {P : Program} {w : World} {K : PySem.W.Frag} {mg : Str → Option Value} {base : Heap} {a : Nat → Addr} {fd : Nat → FuncData} {C : Addr} {tk : Nat → Tok}
def spShp (K : PySem.W.Frag) : Sp := fun vs H Q _ => ∃ (S : Addr → Prop) (p : Addr) (most : Nat), vs = [.ref p, .int (most : Nat)] ∧ Kn S H ∧ S p ∧ PotAt H p ∧ 1 ≤ most ∧ most ≤ 6 ∧
  ∀ u H' t, SameBut p H H' → PotAt H' p → ShpOf most t → Dp K (off S H') u (tD t) → Q u H'
theorem ok__law_shape (T : Txt K mg a fd C tk) : FnOk P w K mg base CX0 8 (a 46) (fd 46) ["_law_pot_here", "_law_most"] (spShp K) := by
  have G__law_any := ok__law_any (P := P) (w := w) (base := base) T 3
  have G__law_plain := ok__law_plain (P := P) (w := w) (base := base) T 4
  have G__law_draw := ok__law_draw (P := P) (w := w) (base := base) T
  have G__law_names := ok__law_names (P := P) (w := w) (base := base) T
  refine T.F__law_shape.ok sc__law_shape (fun vs H Q E h => by obtain ⟨_, _, _, rfl, _⟩ := h; rfl) (fun cdv A outer s H vs Q E hr h => ?_)
  obtain ⟨S, p, most, rfl, kn, hS, hp, m1, m6, q⟩ := h
  refine ⟨_, (pss_cons (ps_set (i := 2) sc__law_shape.nd rfl (Or.inl rfl) (pe_call G__law_names (hr.mono (by omega)) (by rfl) T.m__law_names T.F__law_names.kp T.b__law_names .nil pass0 (pa_cons (pv 0) (pa_cons (pe_op op_add pe_int (pe_call G__law_draw (hr.mono (by omega)) (by rfl) T.m__law_draw T.F__law_draw.kp T.b__law_draw .nil pass0 (pa_cons (pv 0) (pa_cons (pv 1) pa_nil)))) pa_nil))))
      (pss_one (ps_ret (pe_ifExp (pt_cmpR op_eq (pe_call G__law_draw (hr.mono (by omega)) (by rfl) T.m__law_draw T.F__law_draw.kp T.b__law_draw .nil pass0 (pa_cons (pv 0) (pa_cons pe_int pa_nil))) pe_int (nomark _)) (pe_call G__law_any (hr.mono (by omega)) (by rfl) T.m__law_any T.F__law_any.kp T.b__law_any .nil pass0 (pa_cons (pv 0) (pa_cons (pv 2) (pa_cons pe_int pa_nil)))) (pe_call G__law_plain (hr.mono (by omega)) (by rfl) T.m__law_plain T.F__law_plain.kp T.b__law_plain .nil pass0 (pa_cons (pv 0) (pa_cons (pv 2) (pa_cons pe_int pa_nil)))))))), ?_⟩
  have knB : ∀ {H'}, SameBut p H H' → PotAt H' p → Kn S H' := fun {H'} sb pt => kn_bt kn sb pt.some
  refine s_seq (s_set (t_call2 (t_var rfl (t_op (t_c (t_call2 (t_var rfl (t_var rfl ⟨p, most, rfl, hp, by omega, by omega, fun r H1 hr1 sb1 pt1 => ⟨_, _, rfl, rfl, ?_⟩⟩))))))))
  have e1 : (1 : Int) + (r : Nat) = ((1 + r : Nat) : Int) := by omega
  refine ⟨S, p, 1 + r, (by show [V.ref p, V.int (1 + (r : Nat))] = _; rw [e1]), knB sb1 pt1, hS, pt1, by omega, fun u H2 ns sb2 pt2 nd lt24 hl du => nx_of ?_⟩
  have sb12 := sb_trans sb1 sb2
  have kn2 := knB sb12 pt2
  have mm : ∀ {t : Kh.T}, (∀ n ∈ lv t, n ∈ ns) → Wf t → (mem t).length ≤ most := fun {t} h wf => by
    have := sub_len (mem_nodup t) (ns := ns) fun n hn => h n ((mem_iff wf n).mp hn)
    omega
  refine s_ret (t_if (b_test (t_op (t_call2 (t_var rfl (t_c ⟨p, 3, rfl, pt2, by decide, by decide, fun r2 H3 hr3 sb3 pt3 => t_c ⟨rfl, _, rfl, ?_⟩⟩))))))
  have sb13 := sb_trans sb12 sb3
  have du3 := dp_same (off_bt hS sb3) _ _ du
  refine if_b (fun c => ?_) (fun c => ?_)
  · refine t_call3 (t_var rfl (t_var rfl (t_c ⟨S, p, u, ns, 2, rfl, knB sb13 pt3, hS, pt3, du3, by omega, by omega, lt24, by decide, fun v H4 t sb4 pt4 an dv => q v H4 t (sb_trans sb13 sb4) pt4 ⟨an.fl, an.wf, Nat.le_succ_of_le an.dp, an.len, mm an.lv an.wf⟩ dv⟩)))
  · refine t_call3 (t_var rfl (t_var rfl (t_c ⟨S, p, u, ns, 3, rfl, knB sb13 pt3, hS, pt3, du3, by omega, by omega, lt24, by decide, .inl (by decide), fun v H4 t sb4 pt4 pl dv => q v H4 t (sb_trans sb13 sb4) pt4 ⟨pl.fl, pl.wf, pl.dp, by rw [pl.lv.length_eq]; omega, mm (fun n hn => pl.lv.mem_iff.mp hn) pl.wf⟩ dv⟩)))
end
end K31

set_option maxRecDepth 100000
set_option maxHeartbeats 4000000
namespace K31
open PySem PySem.Spec PyProof.Rows L2 Kh
/-! sorted lists of houses, and of lists of them -/
abbrev leL (p q : List Nat) : Bool := leD (nL p) (nL q)
abbrev leN (p q : Nat) : Bool := leD (nD p) (nD q)
theorem leL_total : PySem.W.TotalLe leL := ⟨fun a b c => leD_total.trans _ _ _, fun a b => leD_total.total _ _⟩
theorem leN_total : PySem.W.TotalLe leN := ⟨fun a b c => leD_total.trans _ _ _, fun a b => leD_total.total _ _⟩
theorem leN_eq (p q : Nat) : leN p q = decide (p ≤ q) := by
  have := congrFun (congrFun (PySem.W.dataLe_int (β := Nat) fun n => ((n : Nat) : Int)) p) q
  refine Eq.trans this (decide_eq_decide.mpr (by omega))
def asI (m : List Nat) : List Int := m.map fun n : Nat => ((n : Nat) : Int)
theorem asI_inj {m l : List Nat} (h : asI m = asI l) : m = l := by
  refine List.map_inj_right (f := fun n : Nat => ((n : Nat) : Int)) (fun x y h => ?_) |>.mp h
  have : ((x : Nat) : Int) = ((y : Nat) : Int) := h
  omega
theorem leL_eq (p q : List Nat) : leL p q = decide (asI p ≤ asI q) := by
  have := congrFun (congrFun (PySem.W.dataLe_rows (β := List Nat) asI) p) q
  refine Eq.trans ?_ this
  show leD (nL p) (nL q) = leD (.list ((asI p).map .int)) (.list ((asI q).map .int))
  unfold nL asI
  rw [nD_map, nD_map]
theorem leN_anti (a b : Nat) (h1 : leN a b = true) (h2 : leN b a = true) : a = b := by
  rw [leN_eq] at h1 h2
  have := of_decide_eq_true h1
  have := of_decide_eq_true h2
  omega
theorem leL_anti (a b : List Nat) (h1 : leL a b = true) (h2 : leL b a = true) : a = b := by
  rw [leL_eq] at h1 h2
  exact asI_inj (List.le_antisymm (of_decide_eq_true h1) (of_decide_eq_true h2))
theorem alike_nL (a b : List Nat) : PySem.W.alike (nL a) (nL b) = true := by
  unfold nL
  simp only [PySem.W.alike]
  rw [nD_map, nD_map]; exact PySem.W.alike_ints _ _
theorem depth_nL (a : List Nat) : (nL a).depth ≤ 60 := by
  have h : PyData.depthAll (a.map nD) = 0 := by rw [nD_map]; exact PySem.W.depth_ints _
  unfold nL
  simp only [PyData.depth, h]
  decide
theorem sortable_nL (ms : List (List Nat)) : PySem.W.Sortable (ms.map nL) := PySem.W.Sortable.others fun b => ⟨fun h => (nomatch h), fun xs h => (nomatch h)⟩
theorem sortable_nD (ms : List Nat) : PySem.W.Sortable (ms.map nD) := PySem.W.Sortable.others fun b => ⟨fun h => (nomatch h), fun xs h => (nomatch h)⟩
def srt (m : List Nat) : List Nat := m.mergeSort leN
theorem srt_perm (m : List Nat) : (srt m).Perm m := List.mergeSort_perm m leN
theorem srt_mem {m : List Nat} {n : Nat} : n ∈ srt m ↔ n ∈ m := (srt_perm m).mem_iff
theorem srt_rise {m : List Nat} (h : m.Nodup) : (srt m).Pairwise (· < ·) := by
  have p := PySem.W.sort_pairwise leN_total m
  have nd : (srt m).Nodup := (srt_perm m).nodup_iff.mpr h
  refine (p.and nd).imp fun {a b} q => ?_
  have := q.1
  rw [leN_eq] at this
  have := of_decide_eq_true this
  have := q.2
  omega
theorem rise_eqN : ∀ {xs ys : List Nat}, xs.Pairwise (· < ·) → ys.Pairwise (· < ·) → (∀ k, k ∈ xs ↔ k ∈ ys) → xs = ys := fun {xs ys} h1 h2 h => by
  have a := rise_sub xs ys h1 h2 fun n => (h n).mp
  have b := rise_sub ys xs h2 h1 fun n => (h n).mpr
  exact a.eq_of_length_le b.length_le
theorem srt_rised {m : List Nat} (h : m.Pairwise (· < ·)) : srt m = m := rise_eqN (srt_rise (h.imp fun q => Nat.ne_of_lt q)) h fun k => srt_mem
def meets (t : Kh.T) : List (List Nat) := (lists (mem t)).filter (barely t)
def smeets (t : Kh.T) : List (List Nat) := (meets t).mergeSort leL
theorem smeets_perm (t : Kh.T) : (smeets t).Perm (meets t) := List.mergeSort_perm _ _
theorem meets_mem {t : Kh.T} {m : List Nat} : m ∈ meets t ↔ m.Sublist (mem t) ∧ barely t m = true := by
  unfold meets; rw [List.mem_filter, lists_mem]
theorem smeets_mem {t : Kh.T} {m : List Nat} : m ∈ smeets t ↔ m.Sublist (mem t) ∧ barely t m = true := by rw [(smeets_perm t).mem_iff, meets_mem]
theorem meets_nodup (t : Kh.T) : (meets t).Nodup := (lists_nodup _ (mem_nodup t)).filter _
theorem smeets_of {t : Kh.T} {L : List (List Nat)} (h : L.Perm (meets t)) : L.mergeSort leL = smeets t := PySem.W.sort_pairwise leL_total L |> fun _ => sort_perm leL_total leL_anti h
theorem sub_lenN : ∀ {l ns : List Nat}, l.Nodup → (∀ n ∈ l, n ∈ ns) → l.length ≤ ns.length := sub_len
theorem nodup_of : ∀ {l m : List Nat}, m.Nodup → (∀ n ∈ m, n ∈ l) → l.length ≤ m.length → l.Nodup
  | [], _, _, _, _ => List.nodup_nil
  | x :: l, m, nd, sub, len => by
    rw [List.length_cons] at len
    by_cases hx : x ∈ l
    · have := sub_len nd fun n hn => (List.mem_cons.mp (sub n hn)).elim (fun e => e ▸ hx) id
      omega
    · refine List.nodup_cons.mpr ⟨hx, nodup_of (m := m.erase x) (nd.erase x) (fun n hn => ?_) ?_⟩
      · have := nd.mem_erase_iff.mp hn
        exact (List.mem_cons.mp (sub n this.2)).elim (fun e => (this.1 e).elim) id
      · have := List.length_erase (a := x) (l := m)
        split at this <;> omega
theorem plain_nodup {t : Kh.T} (wf : Wf t) (h : (lv t).length = (mem t).length) : (lv t).Nodup := nodup_of (mem_nodup t) (fun n hn => (mem_iff wf n).mp hn) (by omega)
theorem plain_meets {t : Kh.T} (wf : Wf t) (nd : (lv t).Nodup) : ((pm t).map srt).Perm (meets t) := by
  have r := rep_pm t wf nd
  refine (List.perm_ext_iff_of_nodup ?_ (meets_nodup t)).mpr fun m => ?_
  · refine List.pairwise_map.mpr (r.one.imp fun {x y} h e => h fun n => ?_)
    rw [← srt_mem (m := x), e, srt_mem]
  · rw [meets_mem, List.mem_map]
    constructor
    · rintro ⟨x, hx, rfl⟩
      obtain ⟨h1, h2, h3⟩ := r.sound x hx
      exact ⟨rise_sub _ _ (srt_rise h1) (mem_rise t) fun n hn => (mem_iff wf n).mpr (h2 n (srt_mem.mp hn)), by rw [barely_same fun n => srt_mem]; exact h3⟩
    · rintro ⟨h1, h2⟩
      obtain ⟨x, hx, hs⟩ := r.whole m (fun n hn => (mem_iff wf n).mp (h1.subset hn)) h2
      refine ⟨x, hx, rise_eqN (srt_rise (r.sound x hx).1) ((mem_rise t).sublist h1) fun k => ?_⟩
      rw [srt_mem, hs]
theorem pm_count {t : Kh.T} (wf : Wf t) (nd : (lv t).Nodup) : (pm t).length = (meets t).length := by
  have := (plain_meets wf nd).length_eq
  rwa [List.length_map] at this
/-! how many -/
def esy : List Nat → Nat → Nat
  | _, 0 => 1
  | [], _ + 1 => 0
  | m :: ls, k + 1 => m * esy ls k + esy ls (k + 1)
theorem esy_zero (ls : List Nat) : esy ls 0 = 1 := by cases ls <;> rfl
theorem esy_snoc : ∀ (ls : List Nat) (m k : Nat), esy (ls ++ [m]) (k + 1) = esy ls (k + 1) + esy ls k * m
  | [], m, 0 => by simp [esy]
  | [], m, k + 1 => by simp [esy]
  | l :: ls, m, 0 => by
    show l * esy (ls ++ [m]) 0 + esy (ls ++ [m]) (0 + 1) = l * esy ls 0 + esy ls (0 + 1) + esy (l :: ls) 0 * m
    rw [esy_snoc ls m 0, esy_zero, esy_zero, esy_zero]; omega
  | l :: ls, m, k + 1 => by
    show l * esy (ls ++ [m]) (k + 1) + esy (ls ++ [m]) (k + 1 + 1) = (l * esy ls (k + 1) + esy ls (k + 1 + 1)) + (l * esy ls k + esy ls (k + 1)) * m
    rw [esy_snoc ls m k, esy_snoc ls m (k + 1), Nat.mul_add, Nat.add_mul, Nat.mul_assoc]; omega
theorem unions_len : ∀ (cs : List (List (List Nat))) (k : Nat), (unions cs k).length = esy (cs.map List.length) k
  | cs, 0 => by rw [unions_zero, esy_zero]; rfl
  | [], k + 1 => rfl
  | c :: cs, k + 1 => by
    rw [unions, List.map_cons, esy, List.length_append, ← unions_len cs (k + 1), ← unions_len cs k, List.length_flatMap]
    congr 1
    have : (c.map fun x => ((unions cs k).map (x ++ ·)).length) = List.replicate c.length (unions cs k).length := by
      rw [List.eq_replicate_iff]
      refine ⟨by simp, fun b hb => ?_⟩
      obtain ⟨x, _, rfl⟩ := List.mem_map.mp hb
      simp
    rw [this, List.sum_replicate_nat]
def pc (t : Kh.T) : Nat := (pm t).length
theorem pc_leaf (n : Nat) : pc (.leaf n) = 1 := by unfold pc; rw [pm_leaf]; rfl
theorem pc_gate (b : Bool) (k : Nat) (ps : List Kh.T) : pc (.gate b k ps) = esy (ps.map pc) k := by
  unfold pc; rw [pm_gate, unions_len, List.map_map]; rfl
theorem esy_le : ∀ (ls : List Nat) (k : Nat), esy ls k ≤ (ls.map (· + 1)).foldr (· * ·) 1
  | ls, 0 => by
    rw [esy_zero]
    induction ls with
    | nil => exact Nat.le_refl _
    | cons l ls ih => rw [List.map_cons, List.foldr_cons]; exact Nat.le_trans ih (Nat.le_mul_of_pos_left _ (by omega))
  | [], k + 1 => by simp [esy]
  | l :: ls, k + 1 => by
    rw [esy, List.map_cons, List.foldr_cons, Nat.add_mul, Nat.one_mul]
    exact Nat.add_le_add (Nat.mul_le_mul_left _ (esy_le ls k)) (esy_le ls (k + 1))
theorem prod_pow {ps : List Kh.T} (h : ∀ p ∈ ps, pc p + 1 ≤ 2 ^ (lv p).length) : ((ps.map pc).map (· + 1)).foldr (· * ·) 1 ≤ 2 ^ (ps.flatMap lv).length := by
  induction ps with
  | nil => exact Nat.le_refl _
  | cons p ps ih =>
    rw [List.map_cons, List.map_cons, List.foldr_cons, List.flatMap_cons, List.length_append, Nat.pow_add]
    exact Nat.mul_le_mul (h p List.mem_cons_self) (ih fun q hq => h q (List.mem_cons_of_mem _ hq))
theorem esy_lt : ∀ (ls : List Nat) (k : Nat), esy ls (k + 1) + 1 ≤ (ls.map (· + 1)).foldr (· * ·) 1
  | [], k => by simp [esy]
  | l :: ls, k => by
    rw [esy, List.map_cons, List.foldr_cons, Nat.add_mul, Nat.one_mul, Nat.add_assoc]
    exact Nat.add_le_add (Nat.mul_le_mul_left _ (esy_le ls k)) (esy_lt ls k)
theorem pc_lt : ∀ t : Kh.T, Wf t → pc t + 1 ≤ 2 ^ (lv t).length := Kh.T.ind (fun n _ => by rw [pc_leaf, lv_leaf]; exact Nat.le_refl _) fun b k ps ih wf => by
  rw [wf_gate] at wf
  rw [pc_gate, lv_gate]
  obtain ⟨j, rfl⟩ : ∃ j, k = j + 1 := ⟨k - 1, by omega⟩
  exact Nat.le_trans (esy_lt _ _) (prod_pow fun p hp => ih p hp (wf.2.2 p hp))
end K31

set_option maxRecDepth 100000
set_option maxHeartbeats 4000000
namespace K31
open PySem PySem.Spec PyProof.Rows L2 Kh
section
variable {P : Program} {w : World} {K : PySem.W.Frag} {mg : Str → Option Value} {base : Heap} {a : Nat → Addr} {fd : Nat → FuncData} {C : Addr} {tk : Nat → Tok}
theorem barely_flg (c : Bool) (t : Kh.T) (m : List Nat) : barely (flg c t) m = barely t m := by
  unfold barely
  rw [st_flg]
  congr 3
  exact List.map_congr_left fun h _ => st_flg c _ t
theorem isI_in {H : Hp} {S : Addr → Prop} {t : Kh.T} {x : Addr} (h : TreeAt K C (off S H) t x) : ∃ a dx fs, V.ref x = .ref a ∧ H a = some (.ins C dx fs) := isI_at h
/-- tree.shape -/
theorem t_shape {S : Addr → Prop} {σ : L2.St} {H : Hp} {t : Kh.T} {x : Addr} {i : Nat} {Q : VK} (hi : σ[i]? = some (some (.ref x))) (kn : Kn S H) (ht : TreeAt K C (off S H) t x) (ok : Okt t)
    (q : ∀ u H', Same H H' → Dp K (off S H') u (tD (flg false t)) → Q u H') : tProp C (spM0 K C fun t => tD (flg false t)) [] E0 (tVar i) σ H Q := by
  obtain ⟨dx, v1, v2, v3, hx, _⟩ := id ht
  exact t_prop (t_var hi ⟨x, dx, _, rfl, (off_some hx).2, S, t, x, (), [], rfl, kn, ht, ok, .nil, trivial, q⟩)
theorem t_plain {S : Addr → Prop} {σ : L2.St} {H : Hp} {t : Kh.T} {x : Addr} {i : Nat} {Q : VK} (hi : σ[i]? = some (some (.ref x))) (kn : Kn S H) (ht : TreeAt K C (off S H) t x) (ok : Okt t)
    (q : ∀ H', Same H H' → Q (.bl (decide ((lv t).length = (mem t).length))) H') : tProp C (spM0 K C fun t => .bool (decide ((lv t).length = (mem t).length))) [] E0 (tVar i) σ H Q := by
  obtain ⟨dx, v1, v2, v3, hx, _⟩ := id ht
  refine t_prop (t_var hi ⟨x, dx, _, rfl, (off_some hx).2, S, t, x, (), [], rfl, kn, ht, ok, .nil, trivial, fun u H' s' d => ?_⟩)
  replace d : Dp K (off S H') u (.bool (decide ((lv t).length = (mem t).length))) := d
  cases d
  exact q H' s'
theorem t_members {S : Addr → Prop} {σ : L2.St} {H : Hp} {t : Kh.T} {x : Addr} {i : Nat} {Q : VK} (hi : σ[i]? = some (some (.ref x))) (kn : Kn S H) (ht : TreeAt K C (off S H) t x) (ok : Okt t)
    (q : ∀ u H', Same H H' → Dp K (off S H') u (nL (mem t)) → Q u H') : tMeth C "members" (spM0 K C fun t => nL (mem t)) [] E0 (tVar i) tNil σ H Q := by
  obtain ⟨dx, v1, v2, v3, hx, _⟩ := id ht
  exact t_meth0 (t_var hi ⟨x, dx, _, rfl, (off_some hx).2, rfl, S, t, x, (), [], rfl, kn, ht, ok, .nil, trivial, q⟩)
/-- a function of a tree of few houses -/
abbrev spF (K : PySem.W.Frag) (C : Addr) (f : Kh.T → PyData) : Sp := spM K C (fun _ : Unit => []) (fun t _ => (mem t).length ≤ 7) (fun t _ => f t)
theorem sort_ll {S : Addr → Prop} {H : Hp} {x : V} {L : List (List Nat)} {t : Kh.T} {Q : VK} (kn : Kn S H) (hx : Dp K (off S H) x (nLL L)) (hp : L.Perm (meets t))
    (q : ∀ u H', Same H H' → Dp K (off S H') u (nLL (smeets t)) → Q u H') : rSortM K [x] H Q :=
  sort_m (le := leL) (fun _ _ _ _ => rfl) kn hx (fun a _ b _ => alike_nL a b) (sortable_nL _) (fun a _ => depth_nL a) fun u H' s' d => q u H' s' (by rw [smeets_of hp] at d; exact d)
theorem sort_nn {S : Addr → Prop} {H : Hp} {x : V} {m : List Nat} {Q : VK} (kn : Kn S H) (hx : Dp K (off S H) x (nL m))
    (q : ∀ u H', Same H H' → Dp K (off S H') u (nL (srt m)) → Q u H') : rSortM K [x] H Q :=
  sort_m (f := nD) (le := leN) (fun _ _ _ _ => rfl) kn hx (fun a _ b _ => by unfold nD; simp [PySem.W.alike]) (sortable_nD _) (fun a _ => by unfold nD; simp [PyData.depth]) fun u H' s' d => q u H' s' d
theorem ok_mixed_meetings (T : Txt K mg a fd C tk) (U : TxC K mg a C) : FnOk P w K mg base CX0 11 (a 22) (fd 22) ["tree"] (spF K C fun t => nLL (smeets t)) := by
  have G_lists_of := ok_lists_of (P := P) (w := w) (base := base) T
  have G_stands_barely := ok_stands_barely (P := P) (w := w) (base := base) T
  have G_Tree_shape := ok_Tree_shape (P := P) (w := w) (base := base) T U
  have G_Tree_members := ok_Tree_members (P := P) (w := w) (base := base) T U
  obtain ⟨pS, hpS⟩ := U.p_shape
  refine T.F_mixed_meetings.ok sc_mixed_meetings (fun vs H Q E h => spM_len (fun _ => rfl) h) (fun cdv A outer s H vs Q E hr h => ?_)
  obtain ⟨S, t, x, y, us, rfl, kn, ht, ok, ⟨⟩, few, q⟩ := h
  replace q : ∀ v H', Same H H' → Dp K (off S H') v (nLL (smeets t)) → Q v H' := q
  refine ⟨_, (pss_cons (ps_set (i := 1) sc_mixed_meetings.nd rfl (Or.inr rfl) (pe_prop (pv 0) U.cls hpS G_Tree_shape (hr.mono (by omega)) T.b_Tree_shape .nil pass0 rfl))
      (pss_one (ps_ret (pe_callB (k_sortM (K := K) hr.units) (by rfl) T.z_sorted (by decide +kernel) (pa_cons (pe_lc (own := [("houses", 2)]) (g := gName 2) (tt := _) rfl sc_mixed_meetings.nd (k_pi (K := K) (pe_call G_lists_of (hr.mono (by omega)) (by rfl) T.m_lists_of T.F_lists_of.kp T.b_lists_of .nil pass0 (pa_cons (pe_meth0 (pv 0) U.cls U.me_members G_Tree_members (hr.mono (by omega)) T.b_Tree_members .nil pass0) pa_nil))) (blkOk_by (own := [("houses", 2)]) (N := mixed_meetings_N) (sc := defScope mixed_meetings_s) (by decide +kernel)) (fun _ _ _ _ _ => (pg_name (i := 2) sc_mixed_meetings.nd rfl (Or.inl rfl))) (fun _ _ _ _ _ => (pts_one (pt_val (pe_call G_stands_barely (hr.mono (by omega)) (by rfl) T.m_stands_barely T.F_stands_barely.kp T.b_stands_barely .nil pass0 (pa_cons (pv 1) (pa_cons (pv 2) pa_nil)))))) (fun _ _ _ _ _ => (pv 2))) pa_nil))))), ?_⟩
  refine s_seq (s_set (t_shape rfl kn ht ok fun u H1 s1 du => nx_of ?_))
  have kn1 := kn.same s1
  have ht1 := ht.same (off_same s1)
  refine s_ret (t_cb1 (lcF false (lists (mem t)) (barely t) nL nL kn1 (fun Q q => t_call1 (t_members rfl kn1 ht1 ok fun u2 H2 s2 d2 => ⟨S, mem t, kn1.same s2, .cons d2 .nil, by show (mem t).length ≤ 8; omega, fun u3 H3 s3 d3 => q u3 H3 (s2.trans s3) d3⟩)) (Nat.le_trans (lists_len8 (ns := mem t) (by omega)) (by decide)) (fun _ => rfl) (fun m hm x2 H2 S2 s2 kn2 dx hS ho Q q => ?_) (fun m hm pm' x2 H2 S2 s2 kn2 dx hS ho Q q => t_var rfl (q _ _ (Same.refl _) dx)) fun D H2 ys hD s2 hd2 h2 => ?_))
  · refine b_val (t_call2 (t_var rfl (t_var rfl ⟨S2, (flg false t, false, m), kn2, .cons (dp_same ho _ _ du) (.cons dx .nil), ⟨preOf (okt_flg ok), ?_⟩, fun v H' s' h => ?_⟩)))
    · show m.length ≤ 1000
      have := ((lists_mem _ m).mp hm).length_le
      omega
    · replace h : Dp K (off S2 H') v (.bool (barely (flg false t) m)) := h
      rw [barely_flg] at h
      cases h
      exact ⟨_, rfl, q H' s'⟩
  · exact sort_ll (kn1.same s2) h2 (List.Perm.refl _) fun u3 H3 s3 d3 => q u3 H3 ((s1.trans s2).trans s3) d3
end
end K31

set_option maxRecDepth 100000
set_option maxHeartbeats 1000000
/-! comprehensions over zip -/
namespace Kh
open PySem PySem.Spec PyProof.Rows L2
theorem lcZ {α β : Type} {K : PySem.W.Frag} {S : Addr → Prop} {H : Hp} {σ : L2.St} {ta : TA} {te : TE} {s1 s2 : Nat} {vs : List Nat} {Q : VK} (ms : List α) (ns : List β) (f : α → PyData) (f2 : β → PyData) (g : α × β → PyData) (kn : Kn S H)
    (hev : ∀ Q : List V → Hp → Prop, (∀ u1 u2 H1, Same H H1 → Dp K (off S H1) u1 (.list (ms.map f)) → Dp K (off S H1) u2 (.list (ns.map f2)) → Q [u1, u2] H1) → ta σ H Q) (hn : ms.length ≤ 100000)
    (hw : ∀ x y, wipe (((wipe σ vs).set s1 (some x)).set s2 (some y)) vs = wipe σ vs)
    (body : ∀ m n, (m, n) ∈ ms.zip ns → ∀ x y H1 S', Same H H1 → Kn S' H1 → Dp K (off S' H1) x (f m) → Dp K (off S' H1) y (f2 n) → (∀ a, S a → S' a) → Same (off S H) (off S' H1) → ∀ Q : VK, (∀ z H', Same H1 H' → Dp K (off S' H') z (g (m, n)) → Q z H') → te (((wipe σ vs).set s1 (some x)).set s2 (some y)) H1 Q)
    (done : ∀ D H1 ys, H D = none → Same H H1 → H1 D = some (.lst ys) → Dp K (off S H1) (.ref D) (.list ((ms.zip ns).map g)) → Q (.ref D) H1) :
    tLc (iZip K ta) (gTup K 2 (gCons (gName s1) (gCons (gName s2) gNil))) tYes te vs σ H Q := by
  refine hev _ fun u1 u2 H1 s h1 h2 => ?_
  obtain ⟨ra, xs, rfl, hsa, ha⟩ := list_at h1
  obtain ⟨rb, ys, rfl, hsb, hb⟩ := list_at h2
  refine ⟨ra, rb, xs, ys, rfl, off_sub.seq hsa, off_sub.seq hsb, fun D hD => ?_⟩
  have la := dpa_len ha
  have lb := dpa_len hb
  rw [List.length_map] at la lb
  have kn1 := kn.same s
  have hG : ∀ H', Same H1 H' → SqL K H' ra xs ∧ SqL K H' rb ys := fun H' z => ⟨(off_sub.trans z).seq hsa, (off_sub.trans z).seq hsb⟩
  refine wlk (walk_zip (K := K) (a := ra) (b := rb) (xs := xs) (ys := ys) (n := (ms.zip ns).length) (by rw [List.length_zip, la, lb])) (fun x H' Nx => gTup K 2 (gCons (gName s1) (gCons (gName s2) gNil)) x (wipe σ vs) H' fun σ2 H2 => wipe σ2 vs = wipe σ vs ∧ tYes σ2 H2 fun b H3 => if b = true then te σ2 H3 fun y H4 => ∃ acc, H4 D = some (.lst acc) ∧ acc.length < sizeLine ∧ Nx (upd H4 D (.lst (acc ++ [y]))) else Nx H3)
    (fun i H' => ∃ zs, DpAll K (off (plus S D) H') zs (((ms.zip ns).map g).take i) ∧ Same H1 H' ∧ H' D = some (.lst zs)) ⟨[], .nil, same_new hD, upd_same⟩ (fun i H' _ ⟨_, _, z, _⟩ => hG H' z) ?_ ?_
  · rintro i x H2 H3 hi ⟨zs, py, z, hd⟩ ⟨T0, x1, y1, rfl, hT, rfl, hx, hy⟩
    obtain ⟨d, dj, dx⟩ := dpa_at ha hx
    obtain ⟨e, ej, dy⟩ := dpa_at hb hy
    obtain ⟨m, hj, hm, rfl⟩ := at_map dj
    obtain ⟨n, nj, hn', rfl⟩ := at_map ej
    have zj : (ms.zip ns)[i]? = some (m, n) := by rw [List.getElem?_zip_eq_some]; exact ⟨hj, nj⟩
    have sT := same_new (o := HO.tup [x1, y1]) hT
    have z3 := z.trans sT
    have hd3 := sT _ _ hd
    have hT3 : (upd H2 T0 (.tup [x1, y1])) T0 = some (.tup [x1, y1]) := upd_same
    have py3 := dpa_same (off_same (S := plus S D) sT) _ _ py
    generalize upd H2 T0 (.tup [x1, y1]) = H3 at *
    have hl : zs.length ≤ 100000 := by
      have := dpa_len py
      rw [List.length_take, List.length_map, List.length_zip] at this
      omega
    refine ⟨T0, [x1, y1], rfl, sqT hT3, rfl, x1, [y1], rfl, y1, [], rfl, rfl, hw x1 y1, t_yes ?_⟩
    refine body m n (List.mem_of_getElem? zj) x1 y1 H3 (plus S D) (s.trans z3) ((kn1.same z3).plus (some_ne hd3)) (dp_same (off_plus hD z3) _ _ dx) (dp_same (off_plus hD z3) _ _ dy) (fun _ h => .inl h) ((off_same s).trans (off_plus hD z3)) _ fun u H7 s7 d7 => ?_
    refine ⟨zs, s7 _ _ hd3, Nat.lt_of_le_of_lt hl (by decide), zs ++ [u], ?_, smut (z3.trans s7) hD, upd_same⟩
    rw [off_mut (show plus S D D from .inr rfl), List.take_add_one, List.getElem?_map, zj]
    exact dpa_app (dpa_same (off_same s7) _ _ py3) (.cons d7 .nil)
  · rintro H2 ⟨zs, py, z, hd⟩
    refine done D H2 zs (s.free hD) (s.trans z) hd (dp_lst (kn1.new hD) hd ?_)
    rw [List.take_of_length_le (by rw [List.length_map]; exact Nat.le_refl _)] at py
    exact dpa_same (off_fin (D := D)) _ _ py
end Kh

set_option maxRecDepth 100000
set_option maxHeartbeats 4000000
namespace K31
open PySem PySem.Spec PyProof.Rows L2 Kh
section
variable {P : Program} {w : World} {K : PySem.W.Frag} {mg : Str → Option Value} {base : Heap} {a : Nat → Addr} {fd : Nat → FuncData} {C : Addr} {tk : Nat → Tok}
theorem take_snoc' {α : Type} {ns : List α} {i : Nat} {n : α} (h : ns[i]? = some n) : ns.take (i + 1) = ns.take i ++ [n] := by rw [List.take_add_one, h]; rfl
theorem cut_init (xs : List V) : cutV xs none (some (-1)) = xs.take (xs.length - 1) := by
  unfold cutV
  rw [HT.sIx_none, List.drop_zero, Nat.sub_zero]
  congr 1
  unfold HT.sIx
  simp only []
  split <;> omega
theorem dpa_take {K : PySem.W.Frag} {H : Hp} : ∀ {xs : List V} {ds : List PyData} (n : Nat), DpAll K H xs ds → DpAll K H (xs.take n) (ds.take n)
  | _, _, 0, _ => by rw [List.take_zero, List.take_zero]; exact .nil
  | _, _, n + 1, .nil => .nil
  | _, _, n + 1, .cons h t => .cons h (dpa_take n t)
theorem dpa_drop {K : PySem.W.Frag} {H : Hp} : ∀ {xs : List V} {ds : List PyData} (n : Nat), DpAll K H xs ds → DpAll K H (xs.drop n) (ds.drop n)
  | _, _, 0, h => h
  | _, _, n + 1, .nil => .nil
  | _, _, n + 1, .cons h t => dpa_drop n t
theorem sl_drop {α : Type} {S : Addr → Prop} {H : Hp} {x : V} {ms : List α} {f : α → PyData} {m : Nat} {Q : VK} (kn : Kn S H) (hx : Dp K (off S H) x (.list (ms.map f))) (hm : m ≤ ms.length)
    (q : ∀ u H', Same H H' → Dp K (off S H') u (.list ((ms.drop m).map f)) → Q u H') : rSlL K x (some (m : Nat)) none H Q := by
  obtain ⟨l, xs, rfl, h1, d1⟩ := list_at hx
  have hl := dpa_len d1
  rw [List.length_map] at hl
  refine ⟨l, xs, rfl, off_sub.seq h1, fun p hp => ?_⟩
  rw [cut_drop _ _ (by omega)]
  exact q _ _ (same_new hp) (dp_newL kn hp (by rw [List.map_drop]; exact dpa_drop m d1))
theorem sl_take {α : Type} {S : Addr → Prop} {H : Hp} {x : V} {ms : List α} {f : α → PyData} {m : Nat} {Q : VK} (kn : Kn S H) (hx : Dp K (off S H) x (.list (ms.map f))) (hm : m ≤ ms.length)
    (q : ∀ u H', Same H H' → Dp K (off S H') u (.list ((ms.take m).map f)) → Q u H') : rSlL K x none (some (m : Nat)) H Q := by
  obtain ⟨l, xs, rfl, h1, d1⟩ := list_at hx
  have hl := dpa_len d1
  rw [List.length_map] at hl
  refine ⟨l, xs, rfl, off_sub.seq h1, fun p hp => ?_⟩
  rw [cut_take _ _ (by omega)]
  exact q _ _ (same_new hp) (dp_newL kn hp (by rw [List.map_take]; exact dpa_take m d1))
theorem sl_init {α : Type} {S : Addr → Prop} {H : Hp} {x : V} {ms : List α} {f : α → PyData} {Q : VK} (kn : Kn S H) (hx : Dp K (off S H) x (.list (ms.map f)))
    (q : ∀ u H', Same H H' → Dp K (off S H') u (.list ((ms.take (ms.length - 1)).map f)) → Q u H') : rSlL K x none (some (-1)) H Q := by
  obtain ⟨l, xs, rfl, h1, d1⟩ := list_at hx
  have hl := dpa_len d1
  rw [List.length_map] at hl
  refine ⟨l, xs, rfl, off_sub.seq h1, fun p hp => ?_⟩
  rw [cut_init, hl]
  exact q _ _ (same_new hp) (dp_newL kn hp (by rw [List.map_take]; exact dpa_take _ d1))
theorem ix_last {α : Type} {S : Addr → Prop} {H : Hp} {x : V} {ms : List α} {m : α} {f : α → PyData} {Q : VK} (hx : Dp K (off S H) x (.list ((ms ++ [m]).map f)))
    (q : ∀ u, Dp K (off S H) u (f m) → Q u H) : rIx K x (.int (-1)) H Q := by
  obtain ⟨l, xs, rfl, h1, d1⟩ := list_at hx
  rw [List.map_append, List.map_cons, List.map_nil] at d1
  obtain ⟨vs', v, rfl, h2, h3⟩ := dpa_snoc d1
  exact .inl ⟨l, _, -1, v, rfl, rfl, off_sub.seq h1, atI_last _ _, q v h3⟩
/-- how many, by parts -/
def eD (ls : List Nat) (k : Nat) : List Nat := (List.range (k + 1)).map (esy ls)
theorem eD_len (ls : List Nat) (k : Nat) : (eD ls k).length = k + 1 := by unfold eD; simp
theorem eD_step (ls : List Nat) (m k : Nat) : eD (ls ++ [m]) k = 1 :: ((eD ls k).take ((eD ls k).length - 1) |>.zip ((eD ls k).drop 1)).map fun z => z.2 + z.1 * m := by
  have h1 : (eD ls k).take ((eD ls k).length - 1) = (List.range k).map (esy ls) := by
    rw [eD_len, Nat.add_sub_cancel]
    unfold eD
    rw [← List.map_take, List.take_range, Nat.min_eq_left (by omega)]
  have h2 : (eD ls k).drop 1 = (List.range k).map fun j => esy ls (j + 1) := by
    unfold eD
    rw [List.range_succ_eq_map, List.map_cons, List.drop_succ_cons, List.drop_zero, List.map_map]
    rfl
  rw [h1, h2, List.zip_map', List.map_map]
  unfold eD
  rw [List.range_succ_eq_map, List.map_cons, esy_zero, List.map_map]
  congr 1
  exact List.map_congr_left fun j _ => esy_snoc ls m j
theorem eD_nil (k : Nat) : eD [] k = [1] ++ List.replicate k 0 := by
  unfold eD
  rw [List.range_succ_eq_map, List.map_cons, esy_zero, List.map_map]
  refine congrArg (1 :: ·) (List.eq_replicate_iff.mpr ⟨by simp, fun b hb => ?_⟩)
  obtain ⟨j, _, rfl⟩ := List.mem_map.mp hb
  rfl
theorem eD_last (ls : List Nat) (k : Nat) : eD ls k = (List.range k).map (esy ls) ++ [esy ls k] := by
  unfold eD; rw [List.range_succ, List.map_append]; rfl
theorem esy_small {ps : List Kh.T} (h : ∀ p ∈ ps, Wf p) (hl : (ps.flatMap lv).length ≤ 24) (i k : Nat) : esy ((ps.take i).map pc) k < 2 ^ 25 := by
  have h1 := esy_le ((ps.take i).map pc) k
  have h2 := prod_pow (ps := ps.take i) fun p hp => pc_lt p (h p (List.mem_of_mem_take hp))
  have h3 := flat_take_le ps i
  have h4 : 2 ^ ((ps.take i).flatMap lv).length ≤ 2 ^ 24 := Nat.pow_le_pow_right (by omega) (by omega)
  have h5 : (2 : Nat) ^ 24 < 2 ^ 25 := by decide
  omega
theorem nat_bits {n b : Nat} (h : n < 2 ^ b) : ((n : Nat) : Int).natAbs < 2 ^ b := by simpa using h
abbrev spPC (K : PySem.W.Frag) (d : Nat) : Sp := spP K t1 (fun t => preT d t ∧ (lv t).length ≤ 24) fun t => nD (pc t)
theorem ok_plain_count (T : Txt K mg a fd C tk) : ∀ d, FnOk P w K mg base CX0 (d + 1) (a 23) (fd 23) ["shape"] (spPC K d)
  | 0 => fn_none fun _ _ _ _ h => by
    obtain ⟨_, x, _, _, ⟨⟨_, h⟩, _⟩, _⟩ := h
    exact Nat.not_lt_zero _ h
  | d + 1 => by
    have G_plain_count := ok_plain_count T d
    have G_is_integer : FnOk P w K mg base CX0 1 (a 0) (fd 0) ["value"] (spIsInteger K) := ok_is_integer T
    refine T.F_plain_count.ok sc_plain_count (fun vs H Q E h => spP_len (fun _ => rfl) h) (fun cdv A outer s H vs Q E hr h => ?_)
    obtain ⟨S, t, kn, hd, ⟨⟨sm, dp⟩, l24⟩, q⟩ := h
    replace q : ∀ v H', Same H H' → Dp K (off S H') v (nD (pc t)) → Q v H' := q
    replace sm : Sm t := sm
    replace dp : dep t < d + 1 := dp
    obtain - | ⟨hd, ⟨⟩⟩ := hd
    rename_i v
    replace hd : Dp K (off S H) v (tD t) := hd
    refine ⟨_, (pss_cons (ps_if (pt_val (pe_call G_is_integer (hr.mono (by omega)) (by rfl) T.m_is_integer T.F_is_integer.kp T.b_is_integer .nil pass0 (pa_cons (pv 0) pa_nil)))
        (pss_one (ps_ret pe_int)) pss_nil)
      (pss_cons (ps_set (i := 1) sc_plain_count.nd rfl (Or.inl rfl) (pe_op (k_catS (K := K)) (pe_lst (pa_cons pe_int pa_nil)) (pe_op op_rep (pe_lst (pa_cons pe_int pa_nil)) (pe_ix (k_ix (K := K)) (pv 0) pe_int (fun _ _ => rfl)))))
      (pss_cons (ps_for PassesOwn.never rfl (k_pi (K := K) (pe_ix (k_ix (K := K)) (pv 0) pe_int (fun _ _ => rfl))) (pg_name (i := 2) sc_plain_count.nd rfl (Or.inl rfl))
        (pss_cons (ps_set (i := 3) sc_plain_count.nd rfl (Or.inr rfl) (pe_call G_plain_count (hr.mono (by omega)) (by rfl) T.m_plain_count T.F_plain_count.kp T.b_plain_count .nil pass0 (pa_cons (pv 2) pa_nil)))
        (pss_one (ps_set (i := 1) sc_plain_count.nd rfl (Or.inl rfl) (pe_op (k_catS (K := K)) (pe_lst (pa_cons pe_int pa_nil)) (pe_lc (own := [("former", 4), ("count", 5)]) (g := gTup K 2 (gCons (gName 4) (gCons (gName 5) gNil))) (tt := tYes) rfl sc_plain_count.nd (pi_zip (by rfl) T.z_zip (pa_cons (pe_slice (k_sl (K := K)) (pv 1) po_none (po_some (pe_un un_neg pe_int))) (pa_cons (pe_slice (k_sl (K := K)) (pv 1) (po_some pe_int) po_none) pa_nil))) (blkOk_by (own := [("former", 4), ("count", 5)]) (N := plain_count_N) (sc := defScope plain_count_s) (by decide +kernel)) (fun _ _ _ _ _ => (pg_tup rfl (pgs_cons (pg_name (i := 4) sc_plain_count.nd rfl (Or.inl rfl)) (pgs_cons (pg_name (i := 5) sc_plain_count.nd rfl (Or.inl rfl)) pgs_nil)))) (fun _ _ _ _ _ => pts_nil) (fun _ _ _ _ _ => (pe_op op_add (pv 5) (pe_op op_mulW (pv 4) (pv 3))))))))))
      (pss_one (ps_ret (pe_ix (k_ix (K := K)) (pv 1) (pe_un un_neg pe_int) (fun _ _ => rfl))))))), ?_⟩
    cases t with
    | leaf n =>
      rw [tD_leaf] at hd
      rw [pc_leaf] at q
      exact s_seq (s_if (b_val (t_call1 (t_var rfl (spP_bl off_sub _ (.cons hd .nil) trivial rfl fun H1 s1 => ⟨_, rfl, ifT rfl (s_ret (t_c (q _ _ s1 (.int 1))))⟩)))))
    | gate b k ps =>
      rw [tD_gate] at hd
      rw [pc_gate] at q
      rw [lv_gate] at l24
      have wf := (wf_gate b k ps).mp sm.1
      have k24 : k ≤ 24 := Nat.le_trans wf.2.1 (Nat.le_trans (len_lv ps wf.2.2) l24)
      refine s_seq (s_if (b_val (t_call1 (t_var rfl (spP_bl off_sub _ (.cons hd .nil) trivial rfl fun H1 s1 => ⟨_, rfl, ifF rfl (s_next ?_)⟩)))))
      have kn1 := kn.same s1
      have hd1 := dp_same (off_same s1) _ _ hd
      refine s_seq (s_set (t_op (t_lst (a_cons (t_c (a_nil ⟨le1, fun p1 hp1 => t_op (t_lst (a_cons (t_c (a_nil ⟨le1, fun p2 hp2 => ?_⟩)))) ⟩))))))
      have sp1 := same_new (o := HO.lst [V.int 1]) hp1
      have sp2 := sp1.trans (same_new (o := HO.lst [V.int 0]) hp2)
      have d1 := dp_newL (K := K) kn1 (ds := [.int 1]) hp1 (.cons (.int 1) .nil)
      have d1' := dp_same (off_same (same_new (o := HO.lst [V.int 0]) hp2)) _ _ d1
      have hp2' : (upd (upd H1 p1 (.lst [V.int 1])) p2 (.lst [V.int 0])) p2 = some (.lst [V.int 0]) := upd_same
      generalize upd (upd H1 p1 (.lst [V.int 1])) p2 (.lst [V.int 0]) = H2 at *
      have kn2 := kn1.same sp2
      have hd2 := dp_same (off_same sp2) _ _ hd1
      refine t_op (t_var rfl (t_c (ix_d (i := 1) off_sub hd2 rfl rfl fun u du => ?_)))
      cases du
      refine ⟨p2, ((k : Nat) : Int), _, rfl, rfl, hp2', by omega, by omega, ?_, fun p3 hp3 => ?_⟩
      · show 1 * k ≤ sizeLine
        exact Nat.le_trans (by omega) (show 24 ≤ sizeLine by decide)
      have s3 := same_new (o := HO.lst (List.replicate ((k : Nat) : Int).toNat [V.int 0]).flatten) hp3
      have d3 : Dp K (off S (upd H2 p3 (.lst (List.replicate ((k : Nat) : Int).toNat [V.int 0]).flatten))) (.ref p3) (.list ((List.replicate k 0).map nD)) := by
        refine dp_newL kn2 hp3 ?_
        have : (List.replicate ((k : Nat) : Int).toNat [V.int 0]).flatten = ((List.replicate k (0 : Int)).map V.int) := by
          rw [Int.toNat_natCast]
          induction k with
          | zero => rfl
          | succ k ih => simp [List.replicate_succ]
        rw [this]
        have e : (List.replicate k 0).map nD = (List.replicate k (0 : Int)).map PyData.int := by simp [nD]
        rw [e]; exact ints_dpa _
      refine cat_d (ds := [.int 1]) (es := (List.replicate k 0).map nD) (kn2.same s3) (dp_same (off_same s3) _ _ d1') d3 (by simp; omega) fun u H3 s4 du => nx_of ?_
      have s14 := sp2.trans (s3.trans s4)
      have kn3 := kn1.same s14
      have hd3 := dp_same (off_same s14) _ _ hd1
      have du' : Dp K (off S H3) u (nL (eD [] k)) := by
        rw [eD_nil]
        unfold nL
        rw [List.map_append]
        exact du
      refine s_seq (forM b ps tD kn3 (fun Q q => t_op (t_var rfl (t_c (ix_d (i := 2) off_sub hd3 rfl rfl fun u du => q u _ (Same.refl _) du)))) fun H4 s5 kn4 => ?_)
      refine ⟨fun i σ' H' => ∃ (u : V) (x2 x3 x4 x5 : Option V), σ' = [some v, some u, x2, x3, x4, x5] ∧ Same H4 H' ∧ Dp K (off S H') u (nL (eD ((ps.take i).map pc) k)), ⟨u, _, _, _, _, rfl, Same.refl _, dp_same (off_same s5) _ _ du'⟩, fun i σ' H' ⟨_, _, _, _, _, _, s, _⟩ => off_sub.trans s, ?_, ?_⟩
      · rintro i p x σ' H' pi hi pm dx ⟨u, x2, x3, x4, x5, rfl, s6, d6⟩
        have kn6 := kn4.same s6
        have dx6 := dp_same (off_same s6) _ _ dx
        have lp : (lv p).length ≤ 24 := Nat.le_trans (lv_part pm) l24
        refine g_name (s_seq (s_set (t_call1 (t_var rfl ⟨S, p, kn6, .cons dx6 .nil, ⟨⟨sm.parts p pm, dep_lt dp p pm⟩, lp⟩, fun m H7 s7 dm => nx_of ?_⟩))))
        replace dm : Dp K (off S H7) m (nD (pc p)) := dm
        cases dm
        have d7 := dp_same (off_same s7) _ _ d6
        have kn7 := kn6.same s7
        refine s_set (t_op (t_lst (a_cons (t_c (a_nil ⟨le1, fun p1 hp1 => ?_⟩)))))
        have sp1 := same_new (o := HO.lst [V.int 1]) hp1
        have d1 := dp_newL (K := K) kn7 (ds := [.int 1]) hp1 (.cons (.int 1) .nil)
        have d8 := dp_same (off_same sp1) _ _ d7
        have kn8 := kn7.same sp1
        generalize upd H7 p1 (.lst [V.int 1]) = H8 at *
        generalize hls : (ps.take i).map pc = ls at *
        have small : ∀ j, esy ls j < 2 ^ 25 := fun j => by rw [← hls]; exact esy_small wf.2.2 l24 i j
        have mems : ∀ n ∈ eD ls k, n < 2 ^ 25 := fun n hn => by
          obtain ⟨j, _, rfl⟩ := List.mem_map.mp hn
          exact small j
        have pcs : pc p < 2 ^ 25 := by
          have h1 := pc_lt p (wf.2.2 p pm)
          have h4 : 2 ^ (lv p).length ≤ 2 ^ 24 := Nat.pow_le_pow_right (by omega) lp
          have h5 : (2 : Nat) ^ 24 < 2 ^ 25 := by decide
          omega
        refine lcZ ((eD ls k).take ((eD ls k).length - 1)) ((eD ls k).drop 1) nD nD (fun z => nD (z.2 + z.1 * pc p)) kn8 (fun Q q => ?_) (by rw [List.length_take, eD_len]; omega) (fun _ _ => rfl) (fun m n mn x y H9 S9 s9 kn9 dx dy hS ho Q q => ?_) fun D H9 ys hD s9 hd9 h9 => ?_
        · refine a_cons (t_sl (t_var rfl (o_none (o_some (t_un (t_c ⟨_, rfl, _, rfl, ?_⟩))))))
          refine sl_init kn8 d8 fun u1 H9 s9 e1 => ?_
          refine a_cons (t_sl (t_var rfl (o_some (t_c ⟨_, rfl, o_none ?_⟩))))
          exact sl_drop (m := 1) (kn8.same s9) (dp_same (off_same s9) _ _ d8) (by rw [eD_len]; omega) fun u2 H10 s10 e2 => a_nil (q _ _ _ (s9.trans s10) (dp_same (off_same s10) _ _ e1) e2)
        · cases dx
          cases dy
          have hm : m < 2 ^ 25 := mems m (List.mem_of_mem_take (List.of_mem_zip mn).1)
          refine t_op (t_var rfl (t_op (t_var rfl (t_var rfl ⟨_, _, rfl, rfl, wide_mul (nat_bits hm) (nat_bits pcs) (by decide) (by decide) (by decide), ⟨_, _, rfl, rfl, q _ _ (Same.refl _) ?_⟩⟩))))
          exact dp_int (by simp)
        · refine cat_d (ds := [.int 1]) (kn8.same s9) (dp_same (off_same s9) _ _ d1) h9 (by rw [List.length_map, List.length_zip, List.length_take, eD_len]; simp; omega) fun u2 H10 s10 d10 => ?_
          refine ⟨u2, _, _, _, _, rfl, s6.trans (s7.trans (sp1.trans (s9.trans s10))), ?_⟩
          rw [take_snoc' pi, List.map_append, hls]
          show Dp K (off S H10) u2 (nL (eD (ls ++ [pc p]) k))
          rw [eD_step]
          unfold nL
          rw [List.map_cons, List.map_map]
          exact d10
      · rintro σ' H' ⟨u, x2, x3, x4, x5, rfl, s6, d6⟩
        rw [List.take_length, eD_last] at d6
        refine nx_of (s_ret (t_op (t_var rfl (t_un (t_c ⟨_, rfl, ix_last d6 fun z dz => q z H' (s1.trans (s14.trans (s5.trans s6))) dz⟩)))))
end
end K31

set_option maxRecDepth 100000
set_option maxHeartbeats 4000000
namespace K31
open PySem PySem.Spec PyProof.Rows L2 Kh
section
variable {P : Program} {w : World} {K : PySem.W.Frag} {mg : Str → Option Value} {base : Heap} {a : Nat → Addr} {fd : Nat → FuncData} {C : Addr} {tk : Nat → Tok}
def prodL (cs : List (List (List Nat))) : Nat := (cs.map fun c => c.length + 1).foldr (· * ·) 1
theorem prodL_pos (cs : List (List (List Nat))) : 1 ≤ prodL cs := by
  induction cs with
  | nil => exact Nat.le_refl _
  | cons c cs ih => unfold prodL at *; rw [List.map_cons, List.foldr_cons]; exact Nat.le_trans ih (Nat.le_mul_of_pos_left _ (by omega))
theorem prodL_tail (c : List (List Nat)) (cs : List (List (List Nat))) : prodL cs ≤ prodL (c :: cs) := by
  unfold prodL; rw [List.map_cons, List.foldr_cons]; exact Nat.le_mul_of_pos_left _ (by omega)
theorem prodL_head (c : List (List Nat)) (cs : List (List (List Nat))) : c.length ≤ prodL (c :: cs) := by
  have := prodL_pos cs
  unfold prodL at *; rw [List.map_cons, List.foldr_cons]
  exact Nat.le_trans (by omega) (Nat.le_mul_of_pos_right _ this)
theorem unions_few (cs : List (List (List Nat))) (k : Nat) : (unions cs k).length ≤ prodL cs := by
  rw [unions_len]
  have := esy_le (cs.map List.length) k
  unfold prodL
  rw [List.map_map] at this
  exact this
theorem unions_el : ∀ (cs : List (List (List Nat))) (k : Nat), (∀ c ∈ cs, ∀ m ∈ c, m.length ≤ 24) → ∀ x ∈ unions cs k, x.length ≤ 24 * cs.length
  | cs, 0, _, x, hx => by
    rw [unions_zero] at hx
    rw [List.mem_singleton.mp hx]; exact Nat.zero_le _
  | [], k + 1, _, x, hx => (nomatch hx)
  | c :: cs, k + 1, h, x, hx => by
    rw [unions] at hx
    rw [List.length_cons]
    rcases List.mem_append.mp hx with hx | hx
    · obtain ⟨y, hy, hx⟩ := List.mem_flatMap.mp hx
      obtain ⟨z, hz, rfl⟩ := List.mem_map.mp hx
      have h1 := h c List.mem_cons_self y hy
      have h2 := unions_el cs k (fun c hc => h c (List.mem_cons_of_mem _ hc)) z hz
      rw [List.length_append]; omega
    · have h2 := unions_el cs (k + 1) (fun c hc => h c (List.mem_cons_of_mem _ hc)) x hx
      omega
def eU (x : List (List (List Nat)) × Nat) : List PyData := [.list (x.1.map nLL), nD x.2]
structure PreU (d : Nat) (x : List (List (List Nat)) × Nat) : Prop where
  len : x.1.length < d
  most : x.1.length ≤ 16
  few : prodL x.1 ≤ 70000
  el : ∀ c ∈ x.1, ∀ m ∈ c, m.length ≤ 24
abbrev spUnions (K : PySem.W.Frag) (d : Nat) : Sp := spP K eU (PreU d) fun x => nLL (unions x.1 x.2)
theorem eq_int (n m : Nat) : decide (V.int ((n : Nat) : Int) = V.int ((m : Nat) : Int)) = decide (n = m) := decide_eq_decide.mpr ⟨fun h => by have := V.int.inj h; omega, fun h => by rw [h]⟩
theorem ok_unions (T : Txt K mg a fd C tk) : ∀ d, FnOk P w K mg base CX0 (d + 1) (a 29) (fd 29) ["choices", "need"] (spUnions K d)
  | 0 => fn_none fun _ _ _ _ h => by
    obtain ⟨_, x, _, _, h, _⟩ := h
    exact Nat.not_lt_zero _ h.len
  | d + 1 => by
    have G_unions := ok_unions T d
    refine T.F_unions.ok sc_unions (fun vs H Q E h => spP_len (fun _ => rfl) h) (fun cdv A outer s H vs Q E hr h => ?_)
    obtain ⟨S, ⟨cs, k⟩, kn, hd, pre, q⟩ := h
    replace q : ∀ v H', Same H H' → Dp K (off S H') v (nLL (unions cs k)) → Q v H' := q
    obtain - | ⟨hd, - | ⟨hk, ⟨⟩⟩⟩ := hd
    rename_i v vk
    replace hd : Dp K (off S H) v (.list (cs.map nLL)) := hd
    replace hk : Dp K (off S H) vk (nD k) := hk
    cases hk
    have p1 := pre.len
    have p2 := pre.most
    have p3 := pre.few
    have p4 := pre.el
    replace p1 : cs.length < d + 1 := p1
    replace p2 : cs.length ≤ 16 := p2
    replace p3 : prodL cs ≤ 70000 := p3
    replace p4 : ∀ c ∈ cs, ∀ m ∈ c, m.length ≤ 24 := p4
    refine ⟨_, (pss_cons (ps_if (pt_cmpR op_eq (pv 1) pe_int (nomark _))
        (pss_one (ps_ret (pe_lst (pa_cons (pe_lst pa_nil) pa_nil)))) pss_nil)
      (pss_cons (ps_if (pt_cmpR op_gt (pv 1) (pe_callB (k_len (K := K)) (by rfl) T.z_len (by decide +kernel) (pa_cons (pv 0) pa_nil)) (nomark _))
        (pss_one (ps_ret (pe_lst pa_nil))) pss_nil)
      (pss_cons (ps_set (i := 2) sc_unions.nd rfl (Or.inr rfl) (pe_call G_unions (hr.mono (by omega)) (by rfl) T.m_unions T.F_unions.kp T.b_unions .nil pass0 (pa_cons (pe_slice (k_sl (K := K)) (pv 0) (po_some pe_int) po_none) (pa_cons (pe_op op_sub (pv 1) pe_int) pa_nil))))
      (pss_one (ps_ret (pe_op (k_catS (K := K)) (pe_lc2 (own := [("some", 3), ("more", 4)]) (vs1 := [4]) (g := gName 3) (g1 := gName 4) (tt := tYes) (tt1 := tYes) rfl sc_unions.nd (k_pi (K := K) (pe_ix (k_ix (K := K)) (pv 0) pe_int (fun _ _ => rfl))) (blkOk_by (own := [("some", 3), ("more", 4)]) (N := unions_N) (sc := defScope unions_s) (by decide +kernel)) (by decide) (fun _ _ _ _ _ => (pg_name (i := 3) sc_unions.nd rfl (Or.inl rfl))) (fun _ _ _ _ _ => pts_nil) (fun _ _ _ _ _ => (k_pi (K := K) (pv 2))) (fun _ _ _ _ _ => (pg_name (i := 4) sc_unions.nd rfl (Or.inl rfl))) (fun _ _ _ _ _ => pts_nil) (fun _ _ _ _ _ => (pe_op (k_catS (K := K)) (pv 3) (pv 4)))) (pe_call G_unions (hr.mono (by omega)) (by rfl) T.m_unions T.F_unions.kp T.b_unions .nil pass0 (pa_cons (pe_slice (k_sl (K := K)) (pv 0) (po_some pe_int) po_none) (pa_cons (pv 1) pa_nil))))))))), ?_⟩
    refine s_seq (s_if (b_test (t_op (t_var rfl (t_c ⟨rfl, _, rfl, if_b (fun e => ?_) (fun e => s_next ?_)⟩)))))
    · have e0 : k = 0 := by have := V.int.inj (of_decide_eq_true e); omega
      subst e0
      rw [unions_zero] at q
      refine s_ret (t_lst (a_cons (t_lst0 fun p hp => a_nil ⟨le1, fun p2 hp2 => ?_⟩)))
      have sp := same_new (o := HO.lst []) hp
      exact q _ _ (sp.trans (same_new hp2)) (dp_newL (kn.same sp) hp2 (.cons (dp_newL (ds := []) kn hp .nil) .nil))
    have k0 : k ≠ 0 := fun z => by subst z; exact absurd rfl (of_decide_eq_false e)
    refine s_seq (s_if (b_test (t_op (t_var rfl (t_cb1 (t_var rfl (len_d off_sub hd rfl ⟨_, _, rfl, rfl, ⟨_, rfl, if_b (fun e => ?_) (fun e => s_next ?_)⟩⟩)))))))
    · have e1 := of_decide_eq_true e
      rw [List.length_map] at e1
      rw [unions_none cs k (by omega)] at q
      exact s_ret (t_lst0 fun p hp => q _ _ (same_new hp) (dp_newL (ds := []) kn hp .nil))
    have e1 := of_decide_eq_false e
    rw [List.length_map] at e1
    obtain ⟨j, rfl⟩ : ∃ j, k = j + 1 := ⟨k - 1, by omega⟩
    cases cs with
    | nil => simp at e1
    | cons c cs =>
      have pt : ∀ j', PreU d (cs, j') := fun j' => ⟨by rw [List.length_cons] at p1; show cs.length < d; omega, by rw [List.length_cons] at p2; show cs.length ≤ 16; omega, Nat.le_trans (prodL_tail c cs) p3, fun c' hc => p4 c' (List.mem_cons_of_mem _ hc)⟩
      have tail : ∀ {H' : Hp} {Q' : VK}, Same H H' → (∀ u H2, Same H' H2 → Dp K (off S H2) u (.list (cs.map nLL)) → Q' u H2) → rSlL K v (some 1) none H' Q' := fun {H' Q'} s q' => sl_drop (m := 1) (ms := c :: cs) (kn.same s) (dp_same (off_same s) _ _ hd) (by simp) q'
      refine s_seq (s_set (t_call2 (t_sl (t_var rfl (o_some (t_c ⟨_, rfl, o_none (tail (Same.refl _) fun u H1 s1 d1 => t_op (t_var rfl (t_c ⟨_, _, rfl, rfl, ?_⟩)))⟩))))))
      refine ⟨S, (cs, j), kn.same s1, .cons d1 (.cons (dp_int (by omega)) .nil), pt j, fun r H2 s2 dr => nx_of ?_⟩
      replace dr : Dp K (off S H2) r (nLL (unions cs j)) := dr
      have s12 := s1.trans s2
      have kn2 := kn.same s12
      have few1 := unions_few cs j
      have few2 := unions_few cs (j + 1)
      have few3 := prodL_tail c cs
      have few4 := prodL_head c cs
      have tot := unions_few (c :: cs) (j + 1)
      rw [unions, List.length_append] at tot
      have fl : (c.flatMap fun _ => unions cs j).length = (c.flatMap fun x => (unions cs j).map (x ++ ·)).length := by
        rw [List.length_flatMap, List.length_flatMap]; simp
      refine s_ret (t_op (lc2M false false c nL (fun _ => unions cs j) nL (fun x y => nL (x ++ y)) kn2 (fun Q q => t_op (t_var rfl (t_c (ix_d (i := 0) off_sub (dp_same (off_same s12) _ _ hd) rfl rfl fun u du => q u _ (Same.refl _) du)))) (by omega) (fun _ => rfl) (fun _ _ => rfl) (fun m hm x H3 S3 s3 kn3 dx hS ho Q q => t_var rfl (q _ _ (Same.refl _) (dp_same ho _ _ dr))) (fun m hm n hn x y H3 S3 s3 kn3 dx dy hS ho Q q => ?_) fun D H3 ys hD s3 hd3 h3 => ?_))
      · have h1 := p4 c List.mem_cons_self m hm
        have h2 := unions_el cs j (fun c' hc => p4 c' (List.mem_cons_of_mem _ hc)) n hn
        rw [List.length_cons] at p2
        refine t_op (t_var rfl (t_var rfl (cat_d (ds := m.map nD) (es := n.map nD) kn3 dx dy (by rw [List.length_map, List.length_map]; omega) fun u H4 s4 d4 => q u H4 s4 ?_)))
        unfold nL
        rw [List.map_append]; exact d4
      · have s13 := s12.trans s3
        have kn3 := kn2.same s3
        refine t_call2 (t_sl (t_var rfl (o_some (t_c ⟨_, rfl, o_none (tail s13 fun u H4 s4 d4 => t_var rfl ⟨S, (cs, j + 1), kn3.same s4, .cons d4 (.cons (.int _) .nil), pt (j + 1), fun r2 H5 s5 dr2 => ?_⟩)⟩))))
        replace dr2 : Dp K (off S H5) r2 (nLL (unions cs (j + 1))) := dr2
        have s35 := s4.trans s5
        have e : (c.flatMap fun x => (unions cs j).map fun y => nL (x ++ y)) = (c.flatMap fun x => (unions cs j).map (x ++ ·)).map nL := by
          rw [List.map_flatMap]
          congr 1; funext x; rw [List.map_map]; rfl
        rw [e] at h3
        refine cat_d (es := (unions cs (j + 1)).map nL) (kn3.same s35) (dp_same (off_same s35) _ _ h3) dr2 (by rw [List.length_map, List.length_map]; omega) fun u2 H6 s6 d6 => q u2 H6 ((s13.trans s35).trans s6) ?_
        rw [unions]
        unfold nLL
        rw [List.map_append]; exact d6
theorem pm_len : ∀ t : Kh.T, ∀ m ∈ pm t, m.length ≤ (lv t).length := Kh.T.ind (fun n m hm => by rw [pm_leaf] at hm; rw [List.mem_singleton.mp hm, lv_leaf]; exact Nat.le_refl _) fun b k ps ih m hm => by
  rw [pm_gate] at hm
  rw [lv_gate]
  have go : ∀ (ps : List Kh.T) (k : Nat), (∀ p ∈ ps, ∀ m ∈ pm p, m.length ≤ (lv p).length) → ∀ x ∈ unions (ps.map pm) k, x.length ≤ (ps.flatMap lv).length := by
    intro ps
    induction ps with
    | nil =>
      intro k _ x hx
      cases k with
      | zero => rw [unions_zero] at hx; rw [List.mem_singleton.mp hx]; exact Nat.zero_le _
      | succ k => cases hx
    | cons p ps ih =>
      intro k h x hx
      cases k with
      | zero => rw [unions_zero] at hx; rw [List.mem_singleton.mp hx]; exact Nat.zero_le _
      | succ k =>
        rw [List.map_cons, unions] at hx
        rw [List.flatMap_cons, List.length_append]
        rcases List.mem_append.mp hx with hx | hx
        · obtain ⟨y, hy, hx⟩ := List.mem_flatMap.mp hx
          obtain ⟨z, hz, rfl⟩ := List.mem_map.mp hx
          have h1 := h p List.mem_cons_self y hy
          have h2 := ih k (fun q hq => h q (List.mem_cons_of_mem _ hq)) z hz
          rw [List.length_append]; omega
        · have h2 := ih (k + 1) (fun q hq => h q (List.mem_cons_of_mem _ hq)) x hx
          omega
  exact go ps k ih m hm
abbrev preM (d : Nat) (t : Kh.T) : Prop := preT d t ∧ (lv t).length ≤ 16
abbrev spPM (K : PySem.W.Frag) (d : Nat) : Sp := spP K t1 (preM d) fun t => nLL (pm t)
theorem ok_plain_meetings (T : Txt K mg a fd C tk) : ∀ d, FnOk P w K mg base CX0 (d + 20) (a 30) (fd 30) ["shape"] (spPM K d)
  | 0 => fn_none fun _ _ _ _ h => by
    obtain ⟨_, x, _, _, ⟨⟨_, h⟩, _⟩, _⟩ := h
    exact Nat.not_lt_zero _ h
  | d + 1 => by
    have G_plain_meetings := ok_plain_meetings T d
    have G_unions := ok_unions (P := P) (w := w) (base := base) T 17
    have G_is_integer : FnOk P w K mg base CX0 1 (a 0) (fd 0) ["value"] (spIsInteger K) := ok_is_integer T
    refine T.F_plain_meetings.ok sc_plain_meetings (fun vs H Q E h => spP_len (fun _ => rfl) h) (fun cdv A outer s H vs Q E hr h => ?_)
    obtain ⟨S, t, kn, hd, ⟨⟨sm, dp⟩, l16⟩, q⟩ := h
    replace q : ∀ v H', Same H H' → Dp K (off S H') v (nLL (pm t)) → Q v H' := q
    replace sm : Sm t := sm
    replace dp : dep t < d + 1 := dp
    obtain - | ⟨hd, ⟨⟩⟩ := hd
    rename_i v
    replace hd : Dp K (off S H) v (tD t) := hd
    refine ⟨_, (pss_cons (ps_if (pt_val (pe_call G_is_integer (hr.mono (by omega)) (by rfl) T.m_is_integer T.F_is_integer.kp T.b_is_integer .nil pass0 (pa_cons (pv 0) pa_nil)))
        (pss_one (ps_ret (pe_lst (pa_cons (pe_lst (pa_cons (pv 0) pa_nil)) pa_nil)))) pss_nil)
      (pss_one (ps_ret (pe_call G_unions (hr.mono (by omega)) (by rfl) T.m_unions T.F_unions.kp T.b_unions .nil pass0 (pa_cons (pe_lc (own := [("part", 1)]) (g := gName 1) (tt := tYes) rfl sc_plain_meetings.nd (k_pi (K := K) (pe_ix (k_ix (K := K)) (pv 0) pe_int (fun _ _ => rfl))) (blkOk_by (own := [("part", 1)]) (N := plain_meetings_N) (sc := defScope plain_meetings_s) (by decide +kernel)) (fun _ _ _ _ _ => (pg_name (i := 1) sc_plain_meetings.nd rfl (Or.inl rfl))) (fun _ _ _ _ _ => pts_nil) (fun _ _ _ _ _ => (pe_call G_plain_meetings (hr.mono (by omega)) (by rfl) T.m_plain_meetings T.F_plain_meetings.kp T.b_plain_meetings .nil pass0 (pa_cons (pv 1) pa_nil)))) (pa_cons (pe_ix (k_ix (K := K)) (pv 0) pe_int (fun _ _ => rfl)) pa_nil)))))), ?_⟩
    cases t with
    | leaf n =>
      rw [tD_leaf] at hd
      rw [pm_leaf] at q
      refine s_seq (s_if (b_val (t_call1 (t_var rfl (spP_bl off_sub _ (.cons hd .nil) trivial rfl fun H1 s1 => ⟨_, rfl, ifT rfl ?_⟩)))))
      cases hd
      refine s_ret (t_lst (a_cons (t_lst (a_cons (t_var rfl (a_nil ⟨le1, fun p hp => a_nil ⟨le1, fun p2 hp2 => ?_⟩⟩))))))
      have sp := same_new (o := HO.lst [V.int ((n : Nat) : Int)]) hp
      have kn1 := kn.same s1
      exact q _ _ (s1.trans (sp.trans (same_new hp2))) (dp_newL (kn1.same sp) hp2 (.cons (dp_newL (ds := [nD n]) kn1 hp (.cons (.int _) .nil)) .nil))
    | gate b k ps =>
      rw [tD_gate] at hd
      rw [pm_gate] at q
      rw [lv_gate] at l16
      have wf := (wf_gate b k ps).mp sm.1
      refine s_seq (s_if (b_val (t_call1 (t_var rfl (spP_bl off_sub _ (.cons hd .nil) trivial rfl fun H1 s1 => ⟨_, rfl, ifF rfl (s_next ?_)⟩)))))
      have kn1 := kn.same s1
      have hd1 := dp_same (off_same s1) _ _ hd
      refine s_ret (t_call2 (lcM b ps tD (fun p => nLL (pm p)) kn1 (fun Q q => t_op (t_var rfl (t_c (ix_d (i := 2) off_sub hd1 rfl rfl fun u du => q u _ (Same.refl _) du)))) (Nat.le_trans sm.len (by decide)) (fun _ => rfl) (fun p pm' x H2 S2 s2 kn2 dx hS ho Q q => ?_) fun D H2 ys hD s2 hd2 h2 => ?_))
      · exact t_call1 (t_var rfl ⟨S2, p, kn2, .cons dx .nil, ⟨⟨sm.parts p pm', dep_lt dp p pm'⟩, Nat.le_trans (lv_part pm') l16⟩, fun u H3 s3 d3 => q u H3 s3 d3⟩)
      · refine t_op (t_var rfl (t_c (ix_d (i := 1) off_sub (dp_same (off_same s2) _ _ hd1) rfl rfl fun u du => ?_)))
        cases du
        have h2' : Dp K (off S H2) (.ref D) (.list ((ps.map pm).map nLL)) := by rw [List.map_map]; exact h2
        have lp := len_lv ps wf.2.2
        refine ⟨S, (ps.map pm, k), kn1.same s2, .cons h2' (.cons (.int _) .nil), ⟨by show (ps.map pm).length < 17; rw [List.length_map]; omega, by show (ps.map pm).length ≤ 16; rw [List.length_map]; omega, ?_, ?_⟩, fun u H3 s3 d3 => q u H3 ((s1.trans s2).trans s3) d3⟩
        · have h1 := prod_pow (ps := ps) fun p hp => pc_lt p (wf.2.2 p hp)
          have h2 : 2 ^ (ps.flatMap lv).length ≤ 2 ^ 16 := Nat.pow_le_pow_right (by omega) l16
          have h3 : prodL (ps.map pm) = ((ps.map pc).map (· + 1)).foldr (· * ·) 1 := by
            unfold prodL pc; rw [List.map_map, List.map_map]; rfl
          show prodL (ps.map pm) ≤ 70000
          rw [h3]
          have h4 : (2 : Nat) ^ 16 = 65536 := by decide
          omega
        · intro c hc m hm
          obtain ⟨p, hp, rfl⟩ := List.mem_map.mp hc
          have := pm_len p m hm
          have := lv_part hp
          omega
end
end K31

set_option maxRecDepth 100000
set_option maxHeartbeats 4000000
namespace K31
open PySem PySem.Spec PyProof.Rows L2 Kh
section
variable {P : Program} {w : World} {K : PySem.W.Frag} {mg : Str → Option Value} {base : Heap} {a : Nat → Addr} {fd : Nat → FuncData} {C : Addr} {tk : Nat → Tok}
theorem pm_flg (c : Bool) : ∀ t, pm (flg c t) = pm t := Kh.T.ind (fun n => by rw [flg_leaf]) fun b k ps ih => by
  rw [flg_gate, pm_gate, pm_gate, List.map_map]
  congr 1
  exact List.map_congr_left fun p hp => ih p hp
abbrev preW (t : Kh.T) : Prop := (mem t).length ≤ 7 ∧ (lv t).length ≤ 16
abbrev spW (K : PySem.W.Frag) (C : Addr) (f : Kh.T → PyData) : Sp := spM K C (fun _ : Unit => []) (fun t _ => preW t) (fun t _ => f t)
theorem lvs_le {t : Kh.T} : (lv (flg false t)).length = (lv t).length := by rw [lv_flg]
theorem ok_how_many (T : Txt K mg a fd C tk) (U : TxC K mg a C) : FnOk P w K mg base CX0 13 (a 24) (fd 24) ["tree"] (spW K C fun t => nD (meets t).length) := by
  have G_mixed_meetings := ok_mixed_meetings (P := P) (w := w) (base := base) T U
  have G_plain_count := ok_plain_count (P := P) (w := w) (base := base) T 6
  have G_Tree_shape := ok_Tree_shape (P := P) (w := w) (base := base) T U
  have G_Tree_is_plain := ok_Tree_is_plain (P := P) (w := w) (base := base) T U
  obtain ⟨pS, hpS⟩ := U.p_shape
  obtain ⟨pP, hpP⟩ := U.p_is_plain
  refine T.F_how_many.ok sc_how_many (fun vs H Q E h => spM_len (fun _ => rfl) h) (fun cdv A outer s H vs Q E hr h => ?_)
  obtain ⟨S, t, x, y, us, rfl, kn, ht, ok, ⟨⟩, pre, q⟩ := h
  replace q : ∀ v H', Same H H' → Dp K (off S H') v (nD (meets t).length) → Q v H' := q
  replace pre : preW t := pre
  refine ⟨_, (pss_cons (ps_if (pt_val (pe_prop (pv 0) U.cls hpP G_Tree_is_plain (hr.mono (by omega)) T.b_Tree_is_plain .nil pass0 rfl))
        (pss_one (ps_ret (pe_call G_plain_count (hr.mono (by omega)) (by rfl) T.m_plain_count T.F_plain_count.kp T.b_plain_count .nil pass0 (pa_cons (pe_prop (pv 0) U.cls hpS G_Tree_shape (hr.mono (by omega)) T.b_Tree_shape .nil pass0 rfl) pa_nil)))) pss_nil)
      (pss_one (ps_ret (pe_callB (k_len (K := K)) (by rfl) T.z_len (by decide +kernel) (pa_cons (pe_call G_mixed_meetings (hr.mono (by omega)) (by rfl) T.m_mixed_meetings T.F_mixed_meetings.kp T.b_mixed_meetings .nil pass0 (pa_cons (pv 0) pa_nil)) pa_nil))))), ?_⟩
  refine s_seq (s_if (b_val (t_plain rfl kn ht ok fun H1 s1 => ⟨_, rfl, if_b (fun e => ?_) (fun e => s_next ?_)⟩)))
  · have e1 := of_decide_eq_true e
    have cnt : pc (flg false t) = (meets t).length := by
      unfold pc; rw [pm_flg]; exact pm_count ok.1 (plain_nodup ok.1 e1)
    refine s_ret (t_call1 (t_shape rfl (kn.same s1) (ht.same (off_same s1)) ok fun u H2 s2 du => ⟨S, flg false t, (kn.same s1).same s2, .cons du .nil, ⟨preOf (okt_flg ok), by show (lv (flg false t)).length ≤ 24; rw [lv_flg]; exact ok.2.1⟩, fun v H3 s3 d3 => q v H3 ((s1.trans s2).trans s3) (by rw [← cnt]; exact d3)⟩))
  · refine s_ret (t_cb1 (t_call1 (t_var rfl ⟨S, t, x, (), [], rfl, kn.same s1, ht.same (off_same s1), ok, .nil, pre.1, fun u H2 s2 du => ?_⟩)))
    have du' : Dp K (off S H2) u (.list ((smeets t).map nL)) := du
    refine len_d off_sub du' rfl (q _ _ (s1.trans s2) (dp_int ?_))
    rw [List.length_map, (smeets_perm t).length_eq]
def encW (x : Str) : List PyData := [.str x, .int 200]
theorem meets_few {t : Kh.T} (h : (mem t).length ≤ 7) : (meets t).length ≤ 128 := by
  unfold meets
  refine Nat.le_trans (List.length_filter_le _ _) ?_
  rw [lists_len]
  exact Nat.pow_le_pow_right (by omega) h
theorem ok_meetings_within (T : Txt K mg a fd C tk) (U : TxC K mg a C) : FnOk P w K mg base CX0 30 (a 31) (fd 31) ["tree", "what", "limit"] (spM K C encW (fun t _ => preW t) fun t _ => nLL (smeets t)) := by
  have G_mixed_meetings := ok_mixed_meetings (P := P) (w := w) (base := base) T U
  have G_how_many := ok_how_many (P := P) (w := w) (base := base) T U
  have G_plain_meetings := ok_plain_meetings (P := P) (w := w) (base := base) T 6
  have G_Tree_shape := ok_Tree_shape (P := P) (w := w) (base := base) T U
  have G_Tree_is_plain := ok_Tree_is_plain (P := P) (w := w) (base := base) T U
  obtain ⟨pS, hpS⟩ := U.p_shape
  obtain ⟨pP, hpP⟩ := U.p_is_plain
  refine T.F_meetings_within.ok sc_meetings_within (fun vs H Q E h => spM_len (n := 2) (fun _ => rfl) h) (fun cdv A outer s H vs Q E hr h => ?_)
  obtain ⟨S, t, x, z, us, rfl, kn, ht, ok, hd, pre, q⟩ := h
  replace q : ∀ v H', Same H H' → Dp K (off S H') v (nLL (smeets t)) → Q v H' := q
  replace pre : preW t := pre
  obtain - | ⟨h1, - | ⟨h2, ⟨⟩⟩⟩ := hd
  cases h2
  rename_i v1
  refine ⟨_, (pss_cons (ps_if (pt_cmpR op_gt (pe_call G_how_many (hr.mono (by omega)) (by rfl) T.m_how_many T.F_how_many.kp T.b_how_many .nil pass0 (pa_cons (pv 0) pa_nil)) (pv 2) (nomark _))
        (pss_one ps_never) pss_nil)
      (pss_cons (ps_if (pt_not (pt_val (pe_prop (pv 0) U.cls hpP G_Tree_is_plain (hr.mono (by omega)) T.b_Tree_is_plain .nil pass0 rfl)))
        (pss_one (ps_ret (pe_call G_mixed_meetings (hr.mono (by omega)) (by rfl) T.m_mixed_meetings T.F_mixed_meetings.kp T.b_mixed_meetings .nil pass0 (pa_cons (pv 0) pa_nil)))) pss_nil)
      (pss_one (ps_ret (pe_callB (k_sortM (K := K) hr.units) (by rfl) T.z_sorted (by decide +kernel) (pa_cons (pe_lc (own := [("houses", 3)]) (g := gName 3) (tt := tYes) rfl sc_meetings_within.nd (k_pi (K := K) (pe_call G_plain_meetings (hr.mono (by omega)) (by rfl) T.m_plain_meetings T.F_plain_meetings.kp T.b_plain_meetings .nil pass0 (pa_cons (pe_prop (pv 0) U.cls hpS G_Tree_shape (hr.mono (by omega)) T.b_Tree_shape .nil pass0 rfl) pa_nil))) (blkOk_by (own := [("houses", 3)]) (N := meetings_within_N) (sc := defScope meetings_within_s) (by decide +kernel)) (fun _ _ _ _ _ => (pg_name (i := 3) sc_meetings_within.nd rfl (Or.inl rfl))) (fun _ _ _ _ _ => pts_nil) (fun _ _ _ _ _ => (pe_callB (k_sortM (K := K) hr.units) (by rfl) T.z_sorted (by decide +kernel) (pa_cons (pv 3) pa_nil)))) pa_nil)))))), ?_⟩
  refine s_seq (s_if (b_test (t_op (t_call1 (t_var rfl ⟨S, t, x, (), [], rfl, kn, ht, ok, .nil, pre, fun u H1 s1 du => ?_⟩)))))
  replace du : Dp K (off S H1) u (nD (meets t).length) := du
  cases du
  have mf := meets_few pre.1
  refine t_var rfl ⟨_, _, rfl, rfl, ⟨_, rfl, ifF (decide_eq_false (by omega)) (s_next ?_)⟩⟩
  refine s_seq (s_if (b_not (b_val (t_plain rfl (kn.same s1) (ht.same (off_same s1)) ok fun H2 s2 => ⟨_, rfl, if_b (fun e => ?_) (fun e => s_next ?_)⟩))))
  · have s12 := s1.trans s2
    exact s_ret (t_call1 (t_var rfl ⟨S, t, x, (), [], rfl, kn.same s12, ht.same (off_same s12), ok, .nil, pre.1, fun u H3 s3 du => q u H3 (s12.trans s3) du⟩))
  · have s12 := s1.trans s2
    have e1 : (lv t).length = (mem t).length := by
      have : decide ((lv t).length = (mem t).length) = true := by
        cases h : decide ((lv t).length = (mem t).length) with
        | true => rfl
        | false => rw [h] at e; cases e
      exact of_decide_eq_true this
    have nd := plain_nodup ok.1 e1
    have kn2 := kn.same s12
    refine s_ret (t_cb1 (lcM false (pm t) nL (fun m => nL (srt m)) kn2 (fun Q q => t_call1 (t_shape rfl kn2 (ht.same (off_same s12)) ok fun u H3 s3 du => ⟨S, flg false t, kn2.same s3, .cons du .nil, ⟨preOf (okt_flg ok), by show (lv (flg false t)).length ≤ 16; rw [lv_flg]; exact pre.2⟩, fun v H4 s4 d4 => q v H4 (s3.trans s4) (by have d4' : Dp K (off S H4) v (nLL (pm (flg false t))) := d4; rw [pm_flg] at d4'; exact d4')⟩)) (by rw [pm_count ok.1 nd]; omega) (fun _ => rfl) (fun m hm x2 H3 S3 s3 kn3 dx hS ho Q q => t_cb1 (t_var rfl (sort_nn kn3 dx fun u H4 s4 d4 => q u H4 s4 d4))) fun D H3 ys hD s3 hd3 h3 => ?_))
    have h3' : Dp K (off S H3) (.ref D) (nLL ((pm t).map srt)) := by unfold nLL; rw [List.map_map]; exact h3
    exact sort_ll (kn2.same s3) h3' (plain_meets ok.1 nd) fun u H4 s4 d4 => q u H4 ((s12.trans s3).trans s4) d4
theorem ok_meetings (T : Txt K mg a fd C tk) (U : TxC K mg a C) : FnOk P w K mg base CX0 32 (a 32) (fd 32) ["tree"] (spW K C fun t => nLL (smeets t)) := by
  have G_meetings_within := ok_meetings_within (P := P) (w := w) (base := base) T U
  refine T.F_meetings.ok sc_meetings (fun vs H Q E h => spM_len (fun _ => rfl) h) (fun cdv A outer s H vs Q E hr h => ?_)
  obtain ⟨S, t, x, y, us, rfl, kn, ht, ok, ⟨⟩, pre, q⟩ := h
  refine ⟨_, (pss_one (ps_ret (pe_call G_meetings_within (hr.mono (by omega)) (by rfl) T.m_meetings_within T.F_meetings_within.kp T.b_meetings_within .nil pass0 (pa_cons (pv 0) (pa_cons pe_str (pa_cons (pe_glob (v := .int 200) (by rfl) T.m_MOST_MEETINGS ⟨_, rfl⟩) pa_nil)))))), ?_⟩
  exact s_ret (t_call3 (t_var rfl (t_c (t_c ⟨S, t, x, _, _, rfl, kn, ht, ok, .cons (.str _) (.cons (.int _) .nil), pre, q⟩))))
theorem preW_con {t : Kh.T} (h : preW t) : preW (con t) := ⟨by rw [mem_con]; exact h.1, by rw [lv_con]; exact h.2⟩
theorem t_inv {S : Addr → Prop} {σ : L2.St} {H : Hp} {t : Kh.T} {x : Addr} {i : Nat} {Q : VK} (hi : σ[i]? = some (some (.ref x))) (kn : Kn S H) (ht : TreeAt K C (off S H) t x) (ok : Okt t)
    (q : ∀ y H', Same H H' → TreeAt K C (off S H') (con t) y → Q (.ref y) H') : tUn (rUnI C (spInv K C)) (tVar i) σ H Q :=
  t_un (t_var hi ⟨isI_at ht, S, t, x, (), [], rfl, kn, ht, ok, .nil, trivial, fun y H1 s1 hy => q y H1 s1 hy⟩)
theorem ok_cuts (T : Txt K mg a fd C tk) (U : TxC K mg a C) : FnOk P w K mg base CX0 32 (a 33) (fd 33) ["tree"] (spW K C fun t => nLL (smeets (con t))) := by
  have G_meetings_within := ok_meetings_within (P := P) (w := w) (base := base) T U
  have G_Tree_invert := ok_Tree_invert (P := P) (w := w) (base := base) T U
  refine T.F_cuts.ok sc_cuts (fun vs H Q E h => spM_len (fun _ => rfl) h) (fun cdv A outer s H vs Q E hr h => ?_)
  obtain ⟨S, t, x, y, us, rfl, kn, ht, ok, ⟨⟩, pre, q⟩ := h
  refine ⟨_, (pss_one (ps_ret (pe_call G_meetings_within (hr.mono (by omega)) (by rfl) T.m_meetings_within T.F_meetings_within.kp T.b_meetings_within .nil pass0 (pa_cons (pe_un (un_invI (runsOk G_Tree_invert T.b_Tree_invert) (hr.mono (by omega)) U.me_invert) (pv 0)) (pa_cons pe_str (pa_cons (pe_glob (v := .int 200) (by rfl) T.m_MOST_CUTS ⟨_, rfl⟩) pa_nil)))))), ?_⟩
  exact s_ret (t_call3 (t_inv rfl kn ht ok fun y H1 s1 hy => t_c (t_c ⟨S, con t, y, _, _, rfl, kn.same s1, hy, okt_con ok, .cons (.str _) (.cons (.int _) .nil), preW_con pre, fun v H2 s2 d2 => q v H2 (s1.trans s2) d2⟩)))
end
end K31

set_option maxRecDepth 100000
set_option maxHeartbeats 4000000
namespace K31
open PySem PySem.Spec PyProof.Rows L2 Kh
section
variable {P : Program} {w : World} {K : PySem.W.Frag} {mg : Str → Option Value} {base : Heap} {a : Nat → Addr} {fd : Nat → FuncData} {C : Addr} {tk : Nat → Tok}
/-- a meeting among some houses, or None -/
def spAmong (K : PySem.W.Frag) (C : Addr) (g : Kh.T → Kh.T) : Sp := fun vs H Q _ => ∃ (S : Addr → Prop) (t : Kh.T) (x : Addr) (v : V) (ns : List Nat), vs = [.ref x, v] ∧ Kn S H ∧ TreeAt K C (off S H) t x ∧ Okt t ∧ Dp K (off S H) v (nL ns) ∧ (∀ n ∈ ns, n ∈ mem t) ∧ ns.Nodup ∧
  (∀ H', st ns (g t) = false → Same H H' → Q .non H') ∧ ∀ u H' l, st ns (g t) = true → Same H H' → Dp K (off S H') u (nL l) → l.Sublist (srt ns) → barely (g t) l = true → Q u H'
theorem t_stands {S : Addr → Prop} {σ : L2.St} {H : Hp} {t : Kh.T} {x : Addr} {i j : Nat} {v : V} {ns : List Nat} {q : Bool → Hp → Prop} (hi : σ[i]? = some (some (.ref x))) (hj : σ[j]? = some (some v)) (kn : Kn S H) (ht : TreeAt K C (off S H) t x) (ok : Okt t) (hv : Dp K (off S H) v (nL ns)) (hm : ∀ n ∈ ns, n ∈ mem t) (nd : ns.Nodup)
    (h : ∀ H', Same H H' → q (st ns t) H') : tB (tMeth C "stands" (spM K C encS (fun t x => (∀ n ∈ x.2, n < 24 ∧ n ∈ mem t) ∧ x.2.Nodup ∧ x.2.length ≤ 1000) fun t x => .bool (st x.2 t)) [] E0 (tVar i) (tCons (tVar j) tNil)) σ H q := by
  obtain ⟨dx, v1, v2, v3, hx, _⟩ := id ht
  have l24 : ns.length ≤ 24 := Nat.le_trans (sub_len nd hm) (mem_le t)
  refine b_val (t_meth1 (t_var hi ⟨x, dx, _, rfl, (off_some hx).2, rfl, t_var hj ⟨S, t, x, (false, ns), [v], rfl, kn, ht, ok, .cons hv .nil, ⟨fun n hn => ⟨?_, hm n hn⟩, nd, by show ns.length ≤ 1000; omega⟩, fun b1 H' s' d => ?_⟩⟩))
  · have := hm n hn
    unfold mem at this
    exact List.mem_range.mp (List.mem_filter.mp this).1
  · replace d : Dp K (off S H') b1 (.bool (st ns t)) := d
    cases d
    exact ⟨_, rfl, h H' s'⟩
theorem ok_meeting_among (T : Txt K mg a fd C tk) (U : TxC K mg a C) : FnOk P w K mg base CX0 10 (a 36) (fd 36) ["tree", "houses"] (spAmong K C fun t => t) := by
  have G_Tree_stands := ok_Tree_stands (P := P) (w := w) (base := base) T U
  refine T.F_meeting_among.ok sc_meeting_among (fun vs H Q E h => by obtain ⟨_, _, _, _, _, rfl, _⟩ := h; rfl) (fun cdv A outer s H vs Q E hr h => ?_)
  obtain ⟨S, t, x, v, ns, rfl, kn, ht, ok, hv, hm, nd, qn, qs⟩ := h
  refine ⟨_, (pss_cons (ps_if (pt_not (pt_val (pe_meth (pv 0) U.cls U.me_stands G_Tree_stands (hr.mono (by omega)) T.b_Tree_stands .nil pass0 (pa_cons (pv 1) pa_nil))))
        (pss_one (ps_ret pe_non)) pss_nil)
      (pss_cons (ps_set (i := 2) sc_meeting_among.nd rfl (Or.inl rfl) (pe_callB (k_sortM (K := K) hr.units) (by rfl) T.z_sorted (by decide +kernel) (pa_cons (pv 1) pa_nil)))
      (pss_cons (ps_for PassesOwn.never rfl (k_pi (K := K) (pe_callB (k_sortM (K := K) hr.units) (by rfl) T.z_sorted (by decide +kernel) (pa_cons (pv 1) pa_nil))) (pg_name (i := 3) sc_meeting_among.nd rfl (Or.inr rfl))
        (pss_cons (ps_setLc (i := 4) (own := [("other", 5)]) (g := gName 5) (tt := _) rfl sc_meeting_among.nd rfl rfl (sw_true rfl rfl rfl (by decide +kernel)) (k_pi (K := K) (pv 2)) (blkOk_by (own := [("other", 5)]) (N := meeting_among_N) (sc := defScope meeting_among_s) (by decide +kernel)) (fun _ _ _ _ _ => (pg_name (i := 5) sc_meeting_among.nd rfl (Or.inl rfl))) (fun _ _ _ _ _ => (pts_one (pt_cmpR op_ne (pv 5) (pv 3) (nomark _)))) (fun _ _ _ _ _ => (pv 5)))
        (pss_one (ps_if (pt_val (pe_meth (pv 0) U.cls U.me_stands G_Tree_stands (hr.mono (by omega)) T.b_Tree_stands .nil pass0 (pa_cons (pv 4) pa_nil)))
          (pss_one (ps_set (i := 2) sc_meeting_among.nd rfl (Or.inl rfl) (pv 4))) pss_nil))))
      (pss_one (ps_ret (pv 2)))))), ?_⟩
  refine s_seq (s_if (b_not (t_stands rfl rfl kn ht ok hv hm nd fun H1 s1 => ?_)))
  cases est : st ns t with
  | false => exact ifT rfl (s_ret (t_c (qn H1 est s1)))
  | true =>
  refine ifF rfl (s_next ?_)
  have kn1 := kn.same s1
  have hv1 := dp_same (off_same s1) _ _ hv
  refine s_seq (s_set (t_cb1 (t_var rfl (sort_nn kn1 hv1 fun u H2 s2 du => nx_of ?_))))
  have kn2 := kn1.same s2
  have hv2 := dp_same (off_same s2) _ _ hv1
  refine s_seq (forM false (srt ns) nD kn2 (fun Q q => t_cb1 (t_var rfl (sort_nn kn2 hv2 fun u2 H3 s3 d3 => q u2 H3 s3 d3))) fun H3 s3 kn3 => ?_)
  have s13 := s1.trans (s2.trans s3)
  have ndS : (srt ns).Nodup := (srt_perm ns).nodup_iff.mpr nd
  refine ⟨fun i σ' H' => ∃ (u : V) (l : List Nat) (x3 x4 x5 : Option V), σ' = [some (.ref x), some v, some u, x3, x4, x5] ∧ Same H3 H' ∧ Dp K (off S H') u (nL l) ∧ l.Sublist (srt ns) ∧ st l t = true ∧ ∀ h ∈ (srt ns).take i, h ∈ l → st (less l h) t = false, ⟨u, srt ns, _, _, _, rfl, Same.refl _, dp_same (off_same s3) _ _ du, List.Sublist.refl _, ?_, ?_⟩, fun i σ' H' ⟨_, _, _, _, _, _, s, _⟩ => off_sub.trans s, ?_, ?_⟩
  · rw [← est]; exact st_same fun n _ => srt_mem
  · intro h hh; rw [List.take_zero] at hh; cases hh
  · rintro i n xv σ' H' ni hi hnm dx ⟨u, l, x3, x4, x5, rfl, s4, d4, sub, hst, hbar⟩
    cases dx
    have kn4 := kn3.same s4
    have s14 := s13.trans s4
    have lm : ∀ m ∈ l, m ∈ mem t := fun m hm' => hm m (srt_mem.mp (sub.subset hm'))
    have l24 : l.length ≤ 24 := Nat.le_trans (sub_len (ndS.sublist sub) lm) (mem_le t)
    refine g_name (s_seq (s_set (lcF false l (fun k => decide (k ≠ n)) nD nD kn4 (fun Q q => t_var rfl (q _ _ (Same.refl _) d4)) (by omega) (fun _ => rfl) (fun k hk y H5 S5 s5 kn5 dy hS ho Q q => ?_) (fun k hk pk y H5 S5 s5 kn5 dy hS ho Q q => t_var rfl (q _ _ (Same.refl _) dy)) fun D H5 ys hD s5 hd5 h5 => nx_of ?_)))
    · cases dy
      refine b_test (t_op (t_var rfl (t_var rfl ⟨rfl, _, rfl, ?_⟩)))
      have e : (!decide (V.int ((k : Nat) : Int) = V.int ((n : Nat) : Int))) = decide (k ≠ n) := by
        rw [decide_not]; exact congrArg _ (eq_int k n)
      show Q (!decide (V.int ((k : Nat) : Int) = V.int ((n : Nat) : Int))) H5
      rw [e]; exact q H5 (Same.refl _)
    · have h5' : Dp K (off S H5) (.ref D) (nL (less l n)) := h5
      have kn5 := kn4.same s5
      have s15 := s14.trans s5
      have lsub : (less l n).Sublist l := List.filter_sublist
      refine s_if (t_stands rfl rfl kn5 (ht.same (off_same s15)) ok h5' (fun m hm' => lm m (lsub.subset hm')) (ndS.sublist (lsub.trans sub)) fun H6 s6 => ?_)
      have s46 := s4.trans (s5.trans s6)
      have mono : ∀ h ∈ (srt ns).take i, h ∈ less l n → st (less (less l n) h) t = false := fun h hh hl => by
        cases e : st (less (less l n) h) t with
        | false => rfl
        | true =>
          have := hbar h hh (lsub.subset hl)
          rw [st_mono t (less (less l n) h) (less l h) (fun k _ hk => less_mem.mpr ⟨(less_mem.mp (less_mem.mp hk).1).1, (less_mem.mp hk).2⟩) e] at this
          cases this
      cases e : st (less l n) t with
      | true =>
        refine ifT rfl (s_set (t_var rfl (nx_of ⟨_, less l n, _, _, _, rfl, s46, dp_same (off_same s6) _ _ h5', lsub.trans sub, e, fun h hh hl => ?_⟩)))
        rw [take_snoc ni] at hh
        rcases List.mem_append.mp hh with hh | hh
        · exact mono h hh hl
        · rw [List.mem_singleton.mp hh] at hl
          exact ((less_mem.mp hl).2 rfl).elim
      | false =>
        refine ifF rfl (s_next ⟨u, l, _, _, _, rfl, s46, dp_same (off_same (s5.trans s6)) _ _ d4, sub, hst, fun h hh hl => ?_⟩)
        rw [take_snoc ni] at hh
        rcases List.mem_append.mp hh with hh | hh
        · exact hbar h hh hl
        · rw [List.mem_singleton.mp hh]; exact e
  · rintro σ' H' ⟨u, l, x3, x4, x5, rfl, s4, d4, sub, hst, hbar⟩
    rw [List.take_length] at hbar
    exact nx_of (s_ret (t_var rfl (qs u H' l est (s13.trans s4) d4 sub (barely_iff.mpr ⟨hst, fun h hh => hbar h (sub.subset hh) hh⟩))))
theorem ok_cut_among (T : Txt K mg a fd C tk) (U : TxC K mg a C) : FnOk P w K mg base CX0 12 (a 37) (fd 37) ["tree", "houses"] (spAmong K C con) := by
  have G_meeting_among := ok_meeting_among (P := P) (w := w) (base := base) T U
  have G_Tree_invert := ok_Tree_invert (P := P) (w := w) (base := base) T U
  refine T.F_cut_among.ok sc_cut_among (fun vs H Q E h => by obtain ⟨_, _, _, _, _, rfl, _⟩ := h; rfl) (fun cdv A outer s H vs Q E hr h => ?_)
  obtain ⟨S, t, x, v, ns, rfl, kn, ht, ok, hv, hm, nd, qn, qs⟩ := h
  refine ⟨_, (pss_one (ps_ret (pe_call G_meeting_among (hr.mono (by omega)) (by rfl) T.m_meeting_among T.F_meeting_among.kp T.b_meeting_among .nil pass0 (pa_cons (pe_un (un_invI (runsOk G_Tree_invert T.b_Tree_invert) (hr.mono (by omega)) U.me_invert) (pv 0)) (pa_cons (pv 1) pa_nil))))), ?_⟩
  exact s_ret (t_call2 (t_inv rfl kn ht ok fun y H1 s1 hy => t_var rfl ⟨S, con t, y, v, ns, rfl, kn.same s1, hy, okt_con ok, dp_same (off_same s1) _ _ hv, fun n hn => by rw [mem_con]; exact hm n hn, nd, fun H2 e s2 => qn H2 e (s1.trans s2), fun u H2 l e s2 d2 h1 h2 => qs u H2 l e (s1.trans s2) d2 h1 h2⟩))
end
end K31

set_option maxRecDepth 100000
set_option maxHeartbeats 1000000
/-! promises whose results share nothing with what is told ahead -/
namespace Kh
open PySem PySem.Spec PyProof.Rows L2
/-- data in new lists and tuples, all of them tracked -/
inductive Np (H : Hp) : V → PyData → Prop where
  | int (i : Int) : Np H (.int i) (.int i)
  | str (x : Str) : Np H (.str x) (.str x)
  | lst {a : Addr} {xs : List V} {ds : List PyData} (h : H a = some (.lst xs)) (l : xs.length = ds.length) (t : ∀ (i : Nat) x d, xs[i]? = some x → ds[i]? = some d → Np H x d) : Np H (.ref a) (.list ds)
  | tup {a : Addr} {xs : List V} {ds : List PyData} (h : H a = some (.tup xs)) (l : xs.length = ds.length) (t : ∀ (i : Nat) x d, xs[i]? = some x → ds[i]? = some d → Np H x d) : Np H (.ref a) (.tuple ds)
theorem Np.same {H H' : Hp} (e : Same H H') {v : V} {d : PyData} (h : Np H v d) : Np H' v d := by
  induction h with
  | int i => exact .int i
  | str x => exact .str x
  | lst h l t ih => exact .lst (e _ _ h) l ih
  | tup h l t ih => exact .tup (e _ _ h) l ih
theorem Np.dp {K : PySem.W.Frag} {H : Hp} {v : V} {d : PyData} (h : Np H v d) : Dp K H v d := by
  induction h with
  | int i => exact .int i
  | str x => exact .str x
  | lst h l t ih => exact .lst (sqL h) (dpa_of l ih)
  | tup h l t ih => exact .tup (sqT h) (dpa_of l ih)
/-- what the results are told by -/
structure Rp (R : Hp → V → PyData → Prop) : Prop where
  same : ∀ {H H' : Hp} {v : V} {d : PyData}, Same H H' → R H v d → R H' v d
  lst : ∀ {H : Hp} {a : Addr} {xs : List V} {ds : List PyData}, H a = some (.lst xs) → xs.length = ds.length → (∀ (i : Nat) x d, xs[i]? = some x → ds[i]? = some d → R H x d) → R H (.ref a) (.list ds)
theorem rp_np : Rp Np := ⟨fun e h => h.same e, fun h l t => .lst h l t⟩
theorem rp_dp (K : PySem.W.Frag) : Rp (Dp K) := ⟨fun e h => dp_same e _ _ h, fun h l t => .lst (sqL h) (dpa_of l t)⟩
/-- what is read lies out of S, what is made out of S2 -/
def spN {α : Type} (R : Hp → V → PyData → Prop) (K : PySem.W.Frag) (enc : α → List PyData) (pre : α → Prop) (f : α → PyData) : Sp := fun vs H Q _ => ∃ (S S2 : Addr → Prop) (x : α), (∀ a, S a → S2 a) ∧ Kn S2 H ∧ DpAll K (off S H) vs (enc x) ∧ pre x ∧
  ∀ v H', Same H H' → R (off S2 H') v (f x) → Q v H'
theorem spN_len {α : Type} {R : Hp → V → PyData → Prop} {K : PySem.W.Frag} {enc : α → List PyData} {pre : α → Prop} {f : α → PyData} {vs : List V} {H : Hp} {Q : VK} {E : XK} {n : Nat} (hn : ∀ x, (enc x).length = n) (h : spN R K enc pre f vs H Q E) : vs.length = n := by
  obtain ⟨S, S2, x, _, _, hd, _⟩ := h
  rw [← hn x]; exact dpa_len hd
theorem spN_P {α : Type} {R : Hp → V → PyData → Prop} {K : PySem.W.Frag} {enc : α → List PyData} {pre : α → Prop} {f : α → PyData} {vs : List V} {H : Hp} {Q : VK} {E : XK} (hR : ∀ {H v d}, R H v d → Dp K H v d) (h : spP K enc pre f vs H Q E) : spN R K enc pre f vs H Q E := by
  obtain ⟨S, x, kn, hd, hp, q⟩ := h
  exact ⟨S, S, x, fun _ z => z, kn, hd, hp, fun v H' s h => q v H' s (hR h)⟩
theorem lc_datN {R : Hp → V → PyData → Prop} (rp : Rp R) {K : PySem.W.Frag} {S S2 : Addr → Prop} {H1 : Hp} {σ : L2.St} {te : TE} {sl : Nat} {vs : List Nat} {Qd : VK} {J : It} {xs : List V} {ds : List PyData} (f : Nat → PyData) (h12 : ∀ a, S a → S2 a)
    (w : Walk J xs.length (fun H' => Same (off S H1) H') (YAt xs)) (ha : DpAll K (off S H1) xs ds) (kn : Kn S2 H1) (hn : ds.length ≤ 100000) (hw : ∀ x, wipe ((wipe σ vs).set sl (some x)) vs = wipe σ vs)
    (body : ∀ j x d H Sa Sb, ds[j]? = some d → Same H1 H → (∀ a, Sa a → Sb a) → Kn Sb H → Dp K (off Sa H) x d → (∀ a, S2 a → Sb a) → ∀ Q : VK, (∀ y H', Same H H' → R (off Sb H') y (f j) → Q y H') → te ((wipe σ vs).set sl (some x)) H Q)
    (done : ∀ D H ys, H1 D = none → Same H1 H → H D = some (.lst ys) → R (off S2 H) (.ref D) (.list ((List.range ds.length).map f)) → Qd (.ref D) H) :
    ∀ D, H1 D = none → ∃ W : Nat → Nat → Hp → Prop, (∃ m, W 0 m (upd H1 D (.lst []))) ∧ ∀ i m H, W i m H →
      (J.stop i H ∧ Qd (.ref D) H) ∨ (J.go i H ∧ ∃ Nx : Hp → Prop, (∀ H', Nx H' → ∃ m', m' < m ∧ W (i + 1) m' H') ∧ ∀ x H', J.yld i H x H' → gName sl x (wipe σ vs) H' fun σ2 H2 => wipe σ2 vs = wipe σ vs ∧ tYes σ2 H2 fun b H3 =>
        if b = true then te σ2 H3 fun y H4 => ∃ acc, H4 D = some (.lst acc) ∧ acc.length < sizeLine ∧ Nx (upd H4 D (.lst (acc ++ [y]))) else Nx H3) := by
  intro D hD
  have ln := dpa_len ha
  refine lc_map (Qd := Qd (.ref D)) w (fun j x => xs[j]? = some x) (fun i H x H' _ y => y) (fun j y H => R (off (plus S2 D) H) y (f j)) (fun H s => off_sub.trans s) hD (by omega) hw (fun j y H H' e h => rp.same (off_but e) h) (fun j x H hj xj s hd Q q => ?_) (fun ys H hl py s hd => ?_)
  · obtain ⟨d, dj, dx⟩ := dpa_at ha xj
    exact body j x d H (plus S D) (plus S2 D) dj s (fun a z => z.imp (h12 a) id) ((kn.same s).plus hd) (dp_same (off_plus hD s) _ _ dx) (fun _ h => .inl h) Q q
  · refine done D H ys hD s hd (rp.lst (by rw [off_out (kn.new hD)]; exact hd) (by simp [hl, ln]) fun i v d h1 h2 => rp.same (off_fin (D := D)) ?_)
    have hi : i < ds.length := by
      have := (List.getElem?_eq_some_iff.mp h1).1
      omega
    rw [List.getElem?_map, List.getElem?_range hi] at h2
    cases h2
    exact py i v h1
theorem lc_seqN {R : Hp → V → PyData → Prop} (rp : Rp R) {K : PySem.W.Frag} {S S2 : Addr → Prop} {H : Hp} {σ : L2.St} {t te : TE} {sl : Nat} {vs : List Nat} {Q : VK} {b : Bool} {ds : List PyData} (f : Nat → PyData) (h12 : ∀ a, S a → S2 a) (kn : Kn S2 H)
    (hev : ∀ Q : VK, (∀ u H1, Same H H1 → Dp K (off S H1) u (sq b ds) → Q u H1) → t σ H Q) (hn : ds.length ≤ 100000) (hw : ∀ x, wipe ((wipe σ vs).set sl (some x)) vs = wipe σ vs)
    (body : ∀ j x d H1 Sa Sb, ds[j]? = some d → Same H H1 → (∀ a, Sa a → Sb a) → Kn Sb H1 → Dp K (off Sa H1) x d → (∀ a, S2 a → Sb a) → ∀ Q : VK, (∀ y H', Same H1 H' → R (off Sb H') y (f j) → Q y H') → te ((wipe σ vs).set sl (some x)) H1 Q)
    (done : ∀ D H1 ys, H D = none → Same H H1 → H1 D = some (.lst ys) → R (off S2 H1) (.ref D) (.list ((List.range ds.length).map f)) → Q (.ref D) H1) :
    tLc (fun σ H R => iList K t σ H R ∨ iTup K t σ H R) (gName sl) tYes te vs σ H Q :=
  it_any hev fun J xs H1 s ha w => lc_datN rp f h12 w ha (kn.same s) hn hw (fun j x d H2 Sa Sb dj s2 hab kn2 dx hS Q q => body j x d H2 Sa Sb dj (s.trans s2) hab kn2 dx hS Q q)
    fun D H2 ys hD s2 hd h => done D H2 ys (s.free hD) (s.trans s2) hd h
/-- all that is known -/
def old (H : Hp) : Addr → Prop := fun a => H a ≠ none
theorem kn_old {H : Hp} : Kn (old H) H := fun _ h => h
theorem old_of {S : Addr → Prop} {H : Hp} (k : Kn S H) : ∀ a, S a → old H a := k
/-- [y for x, y in pairs] -/
theorem lc_pair {K : PySem.W.Frag} {S : Addr → Prop} {H : Hp} {σ : L2.St} {t : TE} {s1 s2 : Nat} {vs : List Nat} {Q : VK} (Pd : List (PyData × PyData) → Prop) (kn : Kn S H)
    (hev : ∀ Q : VK, (∀ u H1 ds, Same H H1 → Pd ds → Dp K (off S H1) u (.list (ds.map fun d => .tuple [d.1, d.2])) → Q u H1) → t σ H Q) (hn : ∀ ds, Pd ds → ds.length ≤ 100000)
    (hw : ∀ x y, wipe (((wipe σ vs).set s1 (some x)).set s2 (some y)) vs = wipe σ vs) (hg : ∀ x y, (((wipe σ vs).set s1 (some x)).set s2 (some y))[s2]? = some (some y))
    (done : ∀ D H1 ys ds, Pd ds → H D = none → Same H H1 → H1 D = some (.lst ys) → Dp K (off S H1) (.ref D) (.list (ds.map Prod.snd)) → Q (.ref D) H1) :
    tLc (fun σ H R => iList K t σ H R ∨ iTup K t σ H R) (gTup K 2 (gCons (gName s1) (gCons (gName s2) gNil))) tYes (tVar s2) vs σ H Q := by
  refine .inl (hev _ fun u H1 ds s pd du => ?_)
  obtain ⟨ra, xs, rfl, hsq, ha⟩ := list_at du
  have hn := hn ds pd
  refine ⟨ra, rfl, ⟨xs, off_sub.seq hsq⟩, fun D hD => ?_⟩
  have w : Walk (Itl K ra) xs.length (fun H' => Same (off S H1) H') (YAt xs) := walk_list.mono (fun H' z => z.seq hsq) fun _ _ _ _ _ _ y => y
  have ln := dpa_len ha
  rw [List.length_map] at ln
  refine wlk w (fun x H' Nx => gTup K 2 (gCons (gName s1) (gCons (gName s2) gNil)) x (wipe σ vs) H' fun σ2 H2 => wipe σ2 vs = wipe σ vs ∧ tYes σ2 H2 fun b H3 => if b = true then tVar s2 σ2 H3 fun y H4 => ∃ acc, H4 D = some (.lst acc) ∧ acc.length < sizeLine ∧ Nx (upd H4 D (.lst (acc ++ [y]))) else Nx H3)
    (fun i H' => ∃ ys, DpAll K (off (plus S D) H') ys ((ds.take i).map Prod.snd) ∧ Same H1 H' ∧ H' D = some (.lst ys)) ⟨[], .nil, same_new hD, upd_same⟩ (fun i H' _ ⟨_, _, z, _⟩ => off_sub.trans z) ?_ ?_
  · rintro i x H2 H3 hi ⟨ys, py, z, hd⟩ ⟨rfl, xi⟩
    obtain ⟨d, dj, dx⟩ := dpa_at ha xi
    rw [List.getElem?_map] at dj
    cases di : ds[i]? with
    | none => rw [di] at dj; cases dj
    | some e =>
      rw [di] at dj
      obtain rfl := (Option.some.inj dj).symm
      obtain ⟨p, us, rfl, hs, hu⟩ := tup_at (dp_same (off_plus hD z) _ _ dx)
      obtain - | ⟨h1, - | ⟨h2, ⟨⟩⟩⟩ := hu
      rename_i u1 u2
      have hl : ys.length ≤ 100000 := by
        have := dpa_len py
        rw [List.length_map, List.length_take] at this
        omega
      refine ⟨p, _, rfl, same_t off_sub hs, rfl, u1, _, rfl, u2, _, rfl, rfl, hw u1 u2, t_yes ⟨u2, hg u1 u2, ys, hd, Nat.lt_of_le_of_lt hl (by decide), ys ++ [u2], ?_, smut z hD, upd_same⟩⟩
      rw [off_mut (show plus S D D from .inr rfl), List.take_add_one, di, List.map_append]
      exact dpa_app py (.cons h2 .nil)
  · rintro H2 ⟨ys, py, z, hd⟩
    refine done D H2 ys ds pd (s.free hD) (s.trans z) hd (dp_lst ((kn.same s).new hD) hd ?_)
    rw [ln, List.take_length] at py
    exact dpa_same (off_fin (D := D)) _ _ py
end Kh

set_option maxRecDepth 100000
set_option maxHeartbeats 4000000
namespace K31
open PySem PySem.Spec PyProof.Rows L2 Kh
section
variable {P : Program} {w : World} {K : PySem.W.Frag} {mg : Str → Option Value} {base : Heap} {a : Nat → Addr} {fd : Nat → FuncData} {C : Addr} {tk : Nat → Tok}
theorem alike_pair (m l : List Nat) : PySem.W.alike (.tuple [.int (m.length : Nat), nL m]) (.tuple [.int (l.length : Nat), nL l]) = true := by
  have h : PySem.W.alikeAll (m.map nD) (l.map nD) = true := by
    rw [nD_map, nD_map]; exact PySem.W.alike_ints _ _
  unfold nL
  simp only [PySem.W.alike, PySem.W.alikeAll, h, Bool.and_true]
theorem depth_pair (m : List Nat) : (PyData.tuple [.int (m.length : Nat), nL m]).depth ≤ 60 := by
  have h : PyData.depthAll (m.map nD) = 0 := by rw [nD_map]; exact PySem.W.depth_ints _
  unfold nL
  simp only [PyData.depth, PyData.depthAll, h]
  decide
def dPair (m : List Nat) : PyData := .tuple [.int (m.length : Nat), nL m]
abbrev leP (m l : List Nat) : Bool := leD (dPair m) (dPair l)
theorem leP_total : PySem.W.TotalLe leP := ⟨fun a b c => leD_total.trans _ _ _, fun a b => leD_total.total _ _⟩
theorem leP_len {m l : List Nat} (h : leP m l = true) : m.length ≤ l.length := by
  refine Classical.byContradiction fun hc => ?_
  have e : leP m l = !PySem.W.dataLt (dPair l) (dPair m) := rfl
  rw [e] at h
  unfold dPair at h
  rw [PySem.W.dataLt_pair (by simp [PySem.W.alike]) (alike_nL l m)] at h
  have ne : PyData.eqv (.int ((l.length : Nat) : Int)) (.int ((m.length : Nat) : Int)) = false := by
    rw [PyData.eqv]; exact beq_eq_false_iff_ne.mpr (by omega)
  rw [ne, if_neg Bool.false_ne_true, PySem.W.dataLt_int] at h
  have : decide (((l.length : Nat) : Int) < ((m.length : Nat) : Int)) = true := decide_eq_true (by omega)
  rw [this] at h
  cases h
def llists (ns : List Nat) : List (List Nat) := (lists ns).mergeSort leP
theorem llists_perm (ns : List Nat) : (llists ns).Perm (lists ns) := List.mergeSort_perm _ _
theorem llists_mem {ns m : List Nat} : m ∈ llists ns ↔ m.Sublist ns := by rw [(llists_perm ns).mem_iff, lists_mem]
theorem llists_len8 {ns : List Nat} (h : ns.length ≤ 8) : (llists ns).length ≤ 256 := by rw [(llists_perm ns).length_eq]; exact lists_len8 h
abbrev spLists (K : PySem.W.Frag) : Sp := spP K e1 (fun ns => ns.length ≤ 8) fun ns => nLL (llists ns)
theorem ok__law_lists (T : Txt K mg a fd C tk) : FnOk P w K mg base CX0 1 (a 51) (fd 51) ["_law_some"] (spLists K) := by
  refine T.F__law_lists.ok sc__law_lists (fun vs H Q E h => spP_len (fun _ => rfl) h) (fun cdv A outer s H vs Q E hr h => ?_)
  obtain ⟨S, ns, kn, hd, few, q⟩ := h
  replace q : ∀ v H', Same H H' → Dp K (off S H') v (nLL (llists ns)) → Q v H' := q
  replace few : ns.length ≤ 8 := few
  obtain - | ⟨hd, ⟨⟩⟩ := hd
  rename_i v
  refine ⟨_, (pss_cons (ps_set (i := 1) sc__law_lists.nd rfl (Or.inl rfl) (pe_lst (pa_cons (pe_lst pa_nil) pa_nil)))
      (pss_cons (ps_for PassesOwn.never rfl (k_pi (K := K) (pv 0)) (pg_name (i := 2) sc__law_lists.nd rfl (Or.inr rfl))
        (pss_one (ps_set (i := 1) sc__law_lists.nd rfl (Or.inl rfl) (pe_op (k_catS (K := K)) (pv 1) (pe_lc (own := [("_law_part", 3)]) (g := gName 3) (tt := tYes) rfl sc__law_lists.nd (k_pi (K := K) (pv 1)) (blkOk_by (own := [("_law_part", 3)]) (N := _law_lists_N) (sc := defScope _law_lists_s) (by decide +kernel)) (fun _ _ _ _ _ => (pg_name (i := 3) sc__law_lists.nd rfl (Or.inl rfl))) (fun _ _ _ _ _ => pts_nil) (fun _ _ _ _ _ => (pe_op (k_catS (K := K)) (pv 3) (pe_lst (pa_cons (pv 2) pa_nil)))))))))
      (pss_one (ps_ret (pe_lc (own := [("_law_size", 4), ("_law_part", 3)]) (g := gTup K 2 (gCons (gName 4) (gCons (gName 3) gNil))) (tt := tYes) rfl sc__law_lists.nd (k_pi (K := K) (pe_callB (k_sortM (K := K) hr.units) (by rfl) T.z_sorted (by decide +kernel) (pa_cons (pe_lc (own := [("_law_part", 3)]) (g := gName 3) (tt := tYes) rfl sc__law_lists.nd (k_pi (K := K) (pv 1)) (blkOk_by (own := [("_law_part", 3)]) (N := _law_lists_N) (sc := defScope _law_lists_s) (by decide +kernel)) (fun _ _ _ _ _ => (pg_name (i := 3) sc__law_lists.nd rfl (Or.inl rfl))) (fun _ _ _ _ _ => pts_nil) (fun _ _ _ _ _ => (pe_tup (pa_cons (pe_callB (k_len (K := K)) (by rfl) T.z_len (by decide +kernel) (pa_cons (pv 3) pa_nil)) (pa_cons (pv 3) pa_nil))))) pa_nil))) (blkOk_by (own := [("_law_size", 4), ("_law_part", 3)]) (N := _law_lists_N) (sc := defScope _law_lists_s) (by decide +kernel)) (fun _ _ _ _ _ => (pg_tup rfl (pgs_cons (pg_name (i := 4) sc__law_lists.nd rfl (Or.inl rfl)) (pgs_cons (pg_name (i := 3) sc__law_lists.nd rfl (Or.inl rfl)) pgs_nil)))) (fun _ _ _ _ _ => pts_nil) (fun _ _ _ _ _ => (pv 3))))))), ?_⟩
  refine s_seq (s_set (t_lst (a_cons (t_lst0 fun E0 hE => a_nil ⟨le1, fun F hF => ?_⟩))))
  have sE := same_new (o := HO.lst []) hE
  have dE := dp_newL (K := K) kn hE .nil
  have dF := dp_newL (kn.same sE) hF (.cons dE .nil)
  have sF := sE.trans (same_new (o := HO.lst [V.ref E0]) hF)
  generalize upd (upd H E0 (.lst [])) F (.lst [.ref E0]) = H1 at *
  have kn1 := kn.same sF
  have hd1 := dp_same (off_same sF) _ _ hd
  refine s_seq (forM (S := S) false ns nD kn1 (fun Q q => t_var rfl (q _ _ (Same.refl _) hd1)) fun H2 s2 kn2 => ?_)
  refine ⟨fun i σ' H' => ∃ (F : V) (x2 x3 x4 : Option V), σ' = [some v, some F, x2, x3, x4] ∧ Same H2 H' ∧ Dp K (off S H') F (nLL (lists (ns.take i))), ⟨_, _, _, _, rfl, Same.refl _, dp_same (off_same s2) _ _ dF⟩, fun i σ' H' ⟨_, _, _, _, _, s, _⟩ => off_sub.trans s, ?_, ?_⟩
  · rintro i n x σ' H' ni hi hm dx ⟨F, x2, x3, x4, rfl, s3, dF'⟩
    cases dx
    refine g_name (s_set (lists_step (n := n) (ns := ns.take i) (by rw [List.length_take]; omega) (kn2.same s3) (fun x => ⟨rfl, rfl, rfl, rfl, rfl⟩) rfl dF' fun u H5 s5 d5 => ⟨u, _, _, _, rfl, s3.trans s5, ?_⟩))
    rw [take_snoc ni]; exact d5
  · rintro σ' H' ⟨F, x2, x3, x4, rfl, s3, dF'⟩
    rw [List.take_length] at dF'
    have kn3 := kn2.same s3
    have l256 := lists_len8 (ns := ns) few
    refine nx_of (s_ret ?_)
    refine lc_pair (fun ds => ds = (llists ns).map fun m => (PyData.int (m.length : Nat), nL m)) kn3 (fun Q' q' => ?_) (fun ds h => ?_) (fun _ _ => rfl) (fun _ _ => rfl) fun D H4 ys ds pd hD s4 hd4 h4 => ?_
    · refine t_cb1 (lcM false (lists ns) nL dPair kn3 (fun Q q => t_var rfl (q _ _ (Same.refl _) dF')) (by omega) (fun _ => rfl) (fun m hm x H4 S4 s4 kn4 dx hS ho Q q => ?_) fun D H4 ys hD s4 hd4 h4 => ?_)
      · refine t_tup (a_cons (t_cb1 (t_var rfl (len_d off_sub dx (ds := m.map nD) rfl (a_cons (t_var rfl (a_nil ⟨le2, fun p hp => q _ _ (same_new hp) ?_⟩)))))))
        rw [List.length_map]
        exact dp_newT kn4 hp (.cons (.int _) (.cons dx .nil))
      · refine sort_m (le := leP) (fun _ _ _ _ => rfl) (kn3.same s4) h4 (fun a _ b _ => alike_pair a b) (.inl fun d hd => ?_) (fun a _ => depth_pair a) fun u H5 s5 d5 => q' u H5 _ (s4.trans s5) rfl ?_
        · obtain ⟨m, _, rfl⟩ := List.mem_map.mp hd
          exact ⟨_, _, rfl⟩
        · rw [List.map_map]; exact d5
    · rw [h, List.length_map, (llists_perm ns).length_eq]; omega
    · rw [pd, List.map_map] at h4
      exact q _ H4 (((sF.trans s2).trans s3).trans s4) h4
theorem law_fold (t : Kh.T) : (llists (mem t)).foldl (lawStep t) [] = (llists (mem t)).filter (barely t) :=
  law_meets (mem_rise t) _ (fun m hm => llists_mem.mp hm) (fun m hm => llists_mem.mpr hm) ((llists_perm _).nodup_iff.mpr (lists_nodup _ (mem_nodup t))) ((PySem.W.sort_pairwise leP_total _).imp fun h => leP_len h)
theorem law_perm (t : Kh.T) : ((llists (mem t)).foldl (lawStep t) []).Perm (meets t) := by
  rw [law_fold]; exact (llists_perm _).filter _
theorem fold_take {t : Kh.T} {L : List (List Nat)} {i : Nat} {m : List Nat} (h : L[i]? = some m) : (L.take (i + 1)).foldl (lawStep t) [] = lawStep t ((L.take i).foldl (lawStep t) []) m := by
  rw [take_snoc' h, List.foldl_append]; rfl
theorem lawStep_len (t : Kh.T) (f : List (List Nat)) (m : List Nat) : (lawStep t f m).length ≤ f.length + 1 := by
  unfold lawStep; split <;> simp
theorem fold_len (t : Kh.T) : ∀ (L f : List (List Nat)), (L.foldl (lawStep t) f).length ≤ f.length + L.length
  | [], f => Nat.le_refl _
  | m :: L, f => by
    have h1 := fold_len t L (lawStep t f m)
    have h2 := lawStep_len t f m
    rw [List.foldl_cons, List.length_cons]; omega
theorem fold_sub (t : Kh.T) (ns : List Nat) : ∀ (L f : List (List Nat)), (∀ m ∈ f, m.Sublist ns) → (∀ m ∈ L, m.Sublist ns) → ∀ m ∈ L.foldl (lawStep t) f, m.Sublist ns
  | [], f, h1, _, m, hm => h1 m hm
  | l :: L, f, h1, h2, m, hm => by
    rw [List.foldl_cons] at hm
    refine fold_sub t ns L _ (fun x hx => ?_) (fun x hx => h2 x (List.mem_cons_of_mem _ hx)) m hm
    unfold lawStep at hx
    split at hx
    · rcases List.mem_append.mp hx with hx | hx
      · exact h1 x hx
      · rw [List.mem_singleton.mp hx]; exact h2 l List.mem_cons_self
    · exact h1 x hx
theorem nice_nLs {ms : List Nat} (h : ∀ n ∈ ms, n < 256) (hl : ms.length ≤ 8) : Nice 808 1 (nL ms) := by
  have q := nice_list (niceA_map (f := nD) (g := fun _ => 100) (m := 0) ms fun n hn => nice_int (h n hn))
  have e : ∀ l : List Nat, (l.map fun _ => 100 + 1).sum = 101 * l.length := by
    intro l
    induction l with
    | nil => rfl
    | cons x l ih => rw [List.map_cons, List.sum_cons, ih, List.length_cons]; omega
  rw [e] at q
  exact q.mono (by omega) (Nat.le_refl _)
theorem nice_nLL {L : List (List Nat)} {c : Nat} (h : ∀ m ∈ L, (∀ n ∈ m, n < 256) ∧ m.length ≤ 8) (hl : L.length ≤ c) : Nice (809 * c) 2 (nLL L) := by
  have q := nice_list (niceA_map (f := nL) (g := fun _ => 808) (m := 1) L fun m hm => nice_nLs (h m hm).1 (h m hm).2)
  have e : ∀ l : List (List Nat), (l.map fun _ => 808 + 1).sum = 809 * l.length := by
    intro l
    induction l with
    | nil => rfl
    | cons x l ih => rw [List.map_cons, List.sum_cons, ih, List.length_cons]; omega
  rw [e] at q
  exact q.mono (Nat.mul_le_mul_left _ hl) (Nat.le_refl _)
theorem eqv_nilL (L : List (List Nat)) : PyData.eqv (nLL L) (.list []) = L.isEmpty := by
  unfold nLL
  rw [PyData.eqv]
  cases L with
  | nil => rw [List.map_nil, PyData.eqvAll]; rfl
  | cons m ms => rw [List.map_cons, PyData.eqvAll]; rfl
theorem mem24' {t : Kh.T} {n : Nat} (h : n ∈ mem t) : n < 24 := by
  unfold mem at h
  exact List.mem_range.mp (List.mem_filter.mp h).1
theorem sub_small {t : Kh.T} {m : List Nat} (h8 : (mem t).length ≤ 8) (h : m.Sublist (mem t)) : (∀ n ∈ m, n < 256) ∧ m.length ≤ 8 := ⟨fun n hn => by have := mem24' (h.subset hn); omega, Nat.le_trans h.length_le h8⟩
end
end K31

set_option maxRecDepth 100000
set_option maxHeartbeats 4000000
namespace K31
open PySem PySem.Spec PyProof.Rows L2 Kh
section
variable {P : Program} {w : World} {K : PySem.W.Frag} {mg : Str → Option Value} {base : Heap} {a : Nat → Addr} {fd : Nat → FuncData} {C : Addr} {tk : Nat → Tok}
theorem in_asI {n : Nat} {m : List Nat} : decide (((n : Nat) : Int) ∈ m.map fun k : Nat => ((k : Nat) : Int)) = decide (n ∈ m) := decide_eq_decide.mpr mem_ints
theorem in_nL {S : Addr → Prop} {H : Hp} {n : Nat} {m : List Nat} {v : V} {Q : VK} (h : Dp K (off S H) v (nL m)) (q : Q (.bl (decide (n ∈ m))) H) : rIn K false (.int (n : Nat)) v H Q := by
  refine in_d (ns := m.map fun m : Nat => ((m : Nat) : Int)) off_sub h (by unfold nL; rw [← nD_map]; rfl) ?_
  show Q (.bl (decide (((n : Nat) : Int) ∈ m.map fun k : Nat => ((k : Nat) : Int)))) H
  rw [in_asI]; exact q
theorem notIn_nL {S : Addr → Prop} {H : Hp} {n : Nat} {m : List Nat} {v : V} {Q : VK} (h : Dp K (off S H) v (nL m)) (q : Q (.bl (!decide (n ∈ m))) H) : rIn K true (.int (n : Nat)) v H Q := by
  refine in_d (neg := true) (ns := m.map fun m : Nat => ((m : Nat) : Int)) off_sub h (by unfold nL; rw [← nD_map]; rfl) ?_
  show Q (.bl (!decide (((n : Nat) : Int) ∈ m.map fun k : Nat => ((k : Nat) : Int)))) H
  rw [in_asI]; exact q
abbrev preL8 (t : Kh.T) : Prop := preL 6 t ∧ (mem t).length ≤ 7
abbrev spLM (K : PySem.W.Frag) (g : Kh.T → Kh.T) : Sp := spP K t1 preL8 fun t => nLL (smeets (g t))
theorem ok__law_meetings (T : Txt K mg a fd C tk) : FnOk P w K mg base CX0 10 (a 52) (fd 52) ["_law_sketch"] (spLM K fun t => t) := by
  have G__law_lists := ok__law_lists (P := P) (w := w) (base := base) T
  have G__law_houses := ok__law_houses (P := P) (w := w) (base := base) T 6
  have G__law_stands := ok__law_stands (P := P) (w := w) (base := base) T 6
  refine T.F__law_meetings.ok sc__law_meetings (fun vs H Q E h => spP_len (fun _ => rfl) h) (fun cdv A outer s H vs Q E hr h => ?_)
  obtain ⟨S, t, kn, hd, ⟨pre, m7⟩, q⟩ := h
  replace q : ∀ v H', Same H H' → Dp K (off S H') v (nLL (smeets t)) → Q v H' := q
  replace m7 : (mem t).length ≤ 7 := m7
  obtain - | ⟨hd, ⟨⟩⟩ := hd
  rename_i v
  replace hd : Dp K (off S H) v (tD t) := hd
  refine ⟨_, (pss_cons (ps_set (i := 1) sc__law_meetings.nd rfl (Or.inl rfl) (pe_lst pa_nil))
      (pss_cons (ps_for PassesOwn.never rfl (k_pi (K := K) (pe_call G__law_lists (hr.mono (by omega)) (by rfl) T.m__law_lists T.F__law_lists.kp T.b__law_lists .nil pass0 (pa_cons (pe_call G__law_houses (hr.mono (by omega)) (by rfl) T.m__law_houses T.F__law_houses.kp T.b__law_houses .nil pass0 (pa_cons (pv 0) pa_nil)) pa_nil))) (pg_name (i := 2) sc__law_meetings.nd rfl (Or.inr rfl))
        (pss_one (ps_if (pt_val (pe_call G__law_stands (hr.mono (by omega)) (by rfl) T.m__law_stands T.F__law_stands.kp T.b__law_stands .nil pass0 (pa_cons (pv 0) (pa_cons (pv 2) pa_nil))))
          (pss_cons (ps_setLc (i := 3) (own := [("_law_less", 4)]) (g := gName 4) (tt := _) rfl sc__law_meetings.nd rfl rfl (sw_true rfl rfl rfl (by decide +kernel)) (k_pi (K := K) (pv 1)) (blkOk_by (own := [("_law_less", 4)]) (N := _law_meetings_N) (sc := defScope _law_meetings_s) (by decide +kernel)) (fun _ _ _ _ _ => (pg_name (i := 4) sc__law_meetings.nd rfl (Or.inl rfl))) (fun _ _ _ _ _ => (pts_one (pt_val (pe_callB (k_all (K := K) rfl) (by rfl) T.z_all (by decide +kernel) (pa_cons (pe_lc (own := [("_law_near", 5)]) (g := gName 5) (tt := tYes) rfl sc__law_meetings.nd (k_pi (K := K) (pv 4)) (show BlkOk _law_meetings_N (relS _ (defScope _law_meetings_s)) _ [("_law_near", 5)] from blkOk_by (by decide +kernel)) (fun _ _ _ _ _ => (pg_name (i := 5) sc__law_meetings.nd rfl (Or.inl rfl))) (fun _ _ _ _ _ => pts_nil) (fun _ _ _ _ _ => (pe_cmpR (k_in (K := K)) (pv 5) (pv 2) (by rfl)))) pa_nil))))) (fun _ _ _ _ _ => (pv 4)))
          (pss_one (ps_expr (pe_bm PySem.F.plainAttrs_list PySem.F.slot_list_extend PySem.F.type_list_extend (k_ext (K := K)) (pv 1) (pa_cons (pe_ifExp (pt_cmpR (k_eqD (K := K) hr.units) (pv 3) (pe_lst pa_nil) (nomark _)) (pe_lst (pa_cons (pv 2) pa_nil)) (pe_lst pa_nil)) pa_nil))))) pss_nil)))
      (pss_one (ps_ret (pe_callB (k_sortM (K := K) hr.units) (by rfl) T.z_sorted (by decide +kernel) (pa_cons (pv 1) pa_nil)))))), ?_⟩
  refine s_seq (s_set (t_lst0 fun D hD => nx_of ?_))
  have s0 := same_new (o := HO.lst []) hD
  have kn0 : Kn (plus S D) (upd H D (.lst [])) := (kn.same s0).plus (some_ne (upd_same (o := HO.lst [])))
  have hd0 := dp_same (off_plus hD s0) _ _ hd
  have hU : (upd H D (.lst [])) D = some (.lst []) := upd_same
  generalize hH : upd H D (.lst []) = H0 at *
  refine s_seq (forM (S := plus S D) false (llists (mem t)) nL kn0 (fun Q q => t_call1 (t_call1 (t_var rfl ⟨plus S D, t, kn0, .cons hd0 .nil, pre, fun u1 H1 s1 d1 => ⟨plus S D, mem t, kn0.same s1, .cons d1 .nil, by show (mem t).length ≤ 8; omega, fun u2 H2 s2 d2 => q u2 H2 (s1.trans s2) d2⟩⟩))) fun H1 s1 kn1 => ?_)
  refine ⟨fun i σ' H' => ∃ vs x2 x3 x4 x5, σ' = [some v, some (.ref D), x2, x3, x4, x5] ∧ H' D = some (.lst vs) ∧ DpAll K (off (plus S D) H') vs ((((llists (mem t)).take i).foldl (lawStep t) []).map nL) ∧ SameBut D H1 H', ⟨[], _, _, _, _, rfl, s1 _ _ hU, .nil, sbut (Same.refl _)⟩, fun i σ' H' ⟨_, _, _, _, _, _, _, _, sb⟩ => off_sb sb, ?_, ?_⟩
  · rintro i m x σ' H' mi hi hm dx ⟨vs, x2, x3, x4, x5, rfl, hv, dv, sb⟩
    have knH : Kn (plus S D) H' := fun c z => by
      by_cases e : c = D
      · subst e; exact some_ne hv
      · cases h : H1 c with
        | none => exact (kn1 c z h).elim
        | some o => rw [sb c o e h]; exact fun z => nomatch z
    have dx' := dp_same (off_but sb) _ _ dx
    have hd' := dp_same (off_but sb) _ _ (dp_same (off_same s1) _ _ hd0)
    have stp := fold_take (t := t) mi
    have fl := fold_len t ((llists (mem t)).take i) []
    have fs := fold_sub t (mem t) ((llists (mem t)).take i) [] (fun _ h => nomatch h) (fun m hm => llists_mem.mp (List.mem_of_mem_take hm))
    rw [List.length_take, List.length_nil] at fl
    have l256 := llists_len8 (ns := mem t) (by omega)
    refine g_name (s_if (b_val (t_call2 (t_var rfl (t_var rfl ⟨plus S D, (t, false, m), knH, .cons hd' (.cons dx' .nil), pre.1, fun b H2 s2 db => ?_⟩)))))
    replace db : Dp K (off (plus S D) H2) b (.bool (st m t)) := db
    cases db
    have sb2 : SameBut D H1 H2 := fun c o n h => s2 c o (sb c o n h)
    have hv2 := s2 _ _ hv
    have dv2 := dpa_same (off_same s2) _ _ dv
    cases est : st m t with
    | false =>
      refine ⟨_, rfl, ifF rfl (s_next ⟨vs, _, _, _, _, rfl, hv2, ?_, sb2⟩)⟩
      rw [stp]
      unfold lawStep
      rw [if_neg (by rw [est]; exact fun z => nomatch z.1)]
      exact dv2
    | true =>
      refine ⟨_, rfl, ifT rfl ?_⟩
      generalize hf : ((llists (mem t)).take i).foldl (lawStep t) [] = f at *
      have kn2 : Kn S H2 := fun c hc => (knH.same s2) c (.inl hc)
      have nD' : ¬ S D := kn.new hD
      have dD : Dp K (off S H2) (.ref D) (nLL f) := dp_lst nD' hv2 (dpa_same off_fin _ _ dv2)
      have dm2 : Dp K (off S H2) x (nL m) := dp_same off_fin _ _ (dp_same (off_same s2) _ _ dx')
      refine s_seq (s_set (lcF false f (fun l => (l.map fun n => decide (n ∈ m)).all id) nL nL kn2 (fun Q q => t_var rfl (q _ _ (Same.refl _) dD)) (by omega) (fun _ => rfl) (fun l hl y H3 S3 s3 kn3 dy hS ho Q q => ?_) (fun l hl pl y H3 S3 s3 kn3 dy hS ho Q q => t_var rfl (q _ _ (Same.refl _) dy)) fun L H3 ys hL s3 hL3 h3 => nx_of ?_))
      · have ll := (fs l hl).length_le
        refine b_val (t_cb1 (lcM false l nD (fun n => .bool (decide (n ∈ m))) kn3 (fun Q q => t_var rfl (q _ _ (Same.refl _) dy)) (by omega) (fun _ => rfl) (fun n hn z H4 S4 s4 kn4 dz hS4 ho4 Q q => ?_) fun L4 H4 ys4 hL4 s4 hL4' h4 => ?_))
        · cases dz
          exact t_op (t_var rfl (t_var rfl (in_nL (dp_same (ho.trans ho4) _ _ dm2) (q _ _ (Same.refl _) (.bl _)))))
        · exact all_d (bs := l.map fun n => decide (n ∈ m)) off_sub (by rw [List.map_map]; exact h4) ⟨_, rfl, q H4 s4⟩
      · have hv3 := s3 _ _ hv2
        have kn3 := kn2.same s3
        have fin : ∀ (zs : List V) (H5 : Hp), Same H3 H5 → DpAll K (off (plus S D) H5) zs ((lawStep t f m).map nL |>.drop f.length) → (f.map nL = ((lawStep t f m).map nL).take f.length) → ∃ vs' x2' x3' x4' x5', [some v, some (.ref D), some x, some (.ref L), x4, x5] = [some v, some (V.ref D), x2', x3', x4', x5'] ∧ (upd H5 D (.lst (vs ++ zs))) D = some (.lst vs') ∧ DpAll K (off (plus S D) (upd H5 D (.lst (vs ++ zs)))) vs' ((((llists (mem t)).take (i + 1)).foldl (lawStep t) []).map nL) ∧ SameBut D H1 (upd H5 D (.lst (vs ++ zs))) := by
          intro zs H5 s5 dz e
          refine ⟨vs ++ zs, _, _, _, _, rfl, upd_same, ?_, bmut (fun c o n h => s5 c o (s3 c o (sb2 c o n h)))⟩
          rw [off_mut (show plus S D D from .inr rfl), stp, ← List.take_append_drop f.length ((lawStep t f m).map nL), ← e]
          exact dpa_app (dpa_same (off_same (s3.trans s5)) _ _ dv2) dz
        have lvs := dpa_len dv2
        rw [List.length_map] at lvs
        refine s_drop (t_bm (t_var rfl ⟨.inl ⟨rfl, _, sqL hv3⟩, a_cons (t_if (b_test (t_op (t_var rfl (t_lst0 fun p hp => ?_)))))⟩))
        have sp := same_new (o := HO.lst []) hp
        have shp : SeqAt.shaped (nLL (f.filter fun l => (l.map fun n => decide (n ∈ m)).all id)) = true := by
          refine (nice_nLL (c := 256) (fun l hl => sub_small (by omega) (fs l (List.mem_filter.mp hl).1)) ?_).shaped (by decide)
          exact Nat.le_trans (List.length_filter_le _ _) (by omega)
        refine ⟨_, _, dp_same off_sub _ _ (dp_same (off_same sp) _ _ h3), dp_same off_sub _ _ (dp_newL kn3 hp .nil), shp, by rfl, ?_⟩
        have h3' : PyData.eqv (nLL (f.filter fun l => (l.map fun n => decide (n ∈ m)).all id)) (.list []) = (f.filter fun l => (l.map fun n => decide (n ∈ m)).all id).isEmpty := eqv_nilL _
        show ∃ k, V.bl (PyData.eqv (nLL (f.filter fun l => (l.map fun n => decide (n ∈ m)).all id)) (.list [])) = .bl k ∧ _
        rw [h3']
        have hv4 := sp _ _ hv3
        cases em : (f.filter fun l => (l.map fun n => decide (n ∈ m)).all id).isEmpty with
        | true =>
          have stp2 : lawStep t f m = f ++ [m] := by
            unfold lawStep
            rw [if_pos ⟨est, List.isEmpty_iff.mp em⟩]
          refine ⟨_, rfl, ifT rfl (t_lst (a_cons (t_var rfl (a_nil ⟨le1, fun p2 hp2 => ?_⟩))))⟩
          have sp2 := same_new (o := HO.lst [x]) hp2
          refine ⟨D, p2, vs, [x], rfl, rfl, sp2 _ _ hv4, .inl (sqL upd_same), Nat.le_trans (show vs.length + 1 ≤ 1000 by omega) (by decide), ?_⟩
          refine nx_of (fin [x] _ (sp.trans sp2) ?_ ?_)
          · rw [stp2, List.map_append, List.drop_left' (by rw [List.length_map])]
            have s35 := s2.trans (s3.trans (sp.trans sp2))
            exact .cons (dp_same (off_same s35) _ _ dx') .nil
          · rw [stp2, List.map_append, List.take_left' (by rw [List.length_map])]
        | false =>
          have stp2 : lawStep t f m = f := by
            unfold lawStep
            rw [if_neg fun z => by rw [z.2] at em; cases em]
          refine ⟨_, rfl, ifF rfl (t_lst0 fun p2 hp2 => ?_)⟩
          have sp2 := same_new (o := HO.lst []) hp2
          refine ⟨D, p2, vs, [], rfl, rfl, sp2 _ _ hv4, .inl (sqL upd_same), Nat.le_trans (show vs.length + 0 ≤ 1000 by omega) (by decide), ?_⟩
          refine nx_of (fin [] _ (sp.trans sp2) ?_ ?_)
          · rw [stp2, List.drop_of_length_le (by rw [List.length_map]; exact Nat.le_refl _)]; exact .nil
          · rw [stp2, List.take_of_length_le (by rw [List.length_map]; exact Nat.le_refl _)]
  · rintro σ' H' ⟨vs, x2, x3, x4, x5, rfl, hv, dv, sb⟩
    rw [List.take_length] at dv
    have sH : Same H H' := fun c o h => sb c o (ne_of_none h hD) (s1 c o (s0 c o h))
    exact nx_of (s_ret (t_cb1 (t_var rfl (sort_ll (kn.same sH) (dp_lst (kn.new hD) hv (dpa_same off_fin _ _ dv)) (law_perm t) fun u H3 s3 d3 => q u H3 (sH.trans s3) d3))))
theorem preL_con {t : Kh.T} (h : preL8 t) : preL8 (con t) := ⟨⟨⟨⟨wf_con t h.1.1.1.1, by rw [lv_con]; exact h.1.1.1.2⟩, Nat.lt_succ_of_le (dep_con t 5 (Nat.le_of_lt_succ h.1.1.2))⟩, by rw [lv_con]; exact h.1.2⟩, by rw [mem_con]; exact h.2⟩
theorem ok__law_cuts (T : Txt K mg a fd C tk) : FnOk P w K mg base CX0 12 (a 53) (fd 53) ["_law_sketch"] (spLM K con) := by
  have G__law_meetings := ok__law_meetings (P := P) (w := w) (base := base) T
  have G__law_turned := ok__law_turned (P := P) (w := w) (base := base) T 6
  refine T.F__law_cuts.ok sc__law_cuts (fun vs H Q E h => spP_len (fun _ => rfl) h) (fun cdv A outer s H vs Q E hr h => ?_)
  obtain ⟨S, t, kn, hd, pre, q⟩ := h
  obtain - | ⟨hd, ⟨⟩⟩ := hd
  rename_i v
  refine ⟨_, (pss_one (ps_ret (pe_call G__law_meetings (hr.mono (by omega)) (by rfl) T.m__law_meetings T.F__law_meetings.kp T.b__law_meetings .nil pass0 (pa_cons (pe_call G__law_turned (hr.mono (by omega)) (by rfl) T.m__law_turned T.F__law_turned.kp T.b__law_turned .nil pass0 (pa_cons (pv 0) pa_nil)) pa_nil)))), ?_⟩
  exact s_ret (t_call1 (t_call1 (t_var rfl ⟨S, t, kn, .cons hd .nil, pre.1.1, fun u H1 s1 d1 => ⟨S, con t, kn.same s1, .cons d1 .nil, preL_con pre, fun v H2 s2 d2 => q v H2 (s1.trans s2) d2⟩⟩)))
def eC (x : List Nat × List Nat) : List PyData := [nL x.1, nL x.2]
abbrev spCommon (K : PySem.W.Frag) : Sp := spP K eC (fun x => x.1.length ≤ 1000) fun x => nL (x.1.filter fun n => decide (n ∈ x.2))
theorem ok__law_common (T : Txt K mg a fd C tk) : FnOk P w K mg base CX0 1 (a 54) (fd 54) ["_law_here", "_law_there"] (spCommon K) := by
  refine T.F__law_common.ok sc__law_common (fun vs H Q E h => spP_len (fun _ => rfl) h) (fun cdv A outer s H vs Q E hr h => ?_)
  obtain ⟨S, ⟨l, m⟩, kn, hd, pre, q⟩ := h
  replace pre : l.length ≤ 1000 := pre
  obtain - | ⟨h1, - | ⟨h2, ⟨⟩⟩⟩ := hd
  rename_i v1 v2
  replace h1 : Dp K (off S H) v1 (nL l) := h1
  replace h2 : Dp K (off S H) v2 (nL m) := h2
  refine ⟨_, (pss_one (ps_ret (pe_lc (own := [("_law_near", 2)]) (g := gName 2) (tt := _) rfl sc__law_common.nd (k_pi (K := K) (pv 0)) (blkOk_by (own := [("_law_near", 2)]) (N := _law_common_N) (sc := defScope _law_common_s) (by decide +kernel)) (fun _ _ _ _ _ => (pg_name (i := 2) sc__law_common.nd rfl (Or.inl rfl))) (fun _ _ _ _ _ => (pts_one (pt_cmpR (k_in (K := K)) (pv 2) (pv 1) (by rfl)))) (fun _ _ _ _ _ => (pv 2))))), ?_⟩
  refine s_ret (lcF false l (fun n => decide (n ∈ m)) nD nD kn (fun Q q => t_var rfl (q _ _ (Same.refl _) h1)) (by omega) (fun _ => rfl) (fun n hn x H1 S1 s1 kn1 dx hS ho Q q => ?_) (fun n hn pn x H1 S1 s1 kn1 dx hS ho Q q => t_var rfl (q _ _ (Same.refl _) dx)) fun D H1 ys hD s1 hd1 d1 => q _ _ s1 d1)
  cases dx
  exact b_test (t_op (t_var rfl (t_var rfl (in_nL (dp_same ho _ _ h2) ⟨_, rfl, q _ (Same.refl _)⟩))))
end
end K31

set_option maxRecDepth 100000
set_option maxHeartbeats 2000000
/-! static methods; repr of data -/
namespace Kh
open PySem PySem.Spec PyProof.Rows L2
/-- C.m is a static method: its record at p, its def at g -/
structure SMet (K : PySem.W.Frag) (C : Addr) (mc : Value) (m : Str) (p g : Addr) : Prop where
  rd : PySem.W.readsIn K C mc = true
  ga : PySem.W.specialIn K (.ref C) "__getattribute__" = some (some (.builtin "type.__getattribute__"))
  at_ : PySem.W.findCls K (.ref C) mc m = some (.get (.builtin "staticmethod.__get__") (.ref p) .none (.ref C))
  rc : ∃ rest, PySem.W.recIn K p "staticmethod" = some (.ref g :: rest)
  kp : PySem.W.keepIn K (.ref g) = true
def tSMeth (C : Addr) (sp : Sp) (E : XK) (ta : TE) (t : TA) : TE := fun σ H Q => ta σ H fun x H1 => x = .ref C ∧ t σ H1 fun vs H2 => sp vs H2 Q E
section
variable {X : Cx} {CX : CXT} {k : Nat} {C p g : Addr} {mc : Value} {sp : Sp} {E : XK} {o e : Expr} {es : List Expr} {f m : Str} {pos apos : Pos} {ta : TE} {t : TA} {pl : Sem Bool}
theorem pe_smeth (he : PE X o ta) (c : SMet X.K C mc m p g) (F : FnR X.prog X.w X.K X.mg X.base CX k g sp) (hr : Room k X.A) (hx : Passes CX X E) (ha : PA X (e :: es) t)
    (hst : starEach (e :: es) X.env = (false, eval e X.env) :: starEach es X.env := by rfl) (hpl : (backTo pos (starEach es X.env)).any (·.1) = false := by rfl)
    (ht : eval (.Call (.Attribute o m apos) (e :: es) [] pos) X.env = (do
      let ov ← eval o X.env; standAt apos.atName; let (f, first) ← holding [ov] (getMethod ov m pl); callWith pos f first (backTo pos (starEach (e :: es) X.env)) (backToKw pos (keywordEach [] X.env))) := by rfl) :
    PE X (.Call (.Attribute o m apos) (e :: es) [] pos) (tSMeth C sp E ta t) := by
  refine ⟨fun pins s σ H Q I h => ?_⟩
  refine PySem.W.methodCall_KW (pl := pl) (thn (he.run pins s σ H _ I h) fun u s1 ⟨x, H1, I1, rx, ex, q⟩ => ?_) ht
  subst ex
  obtain rfl : u = Value.ref C := rx
  obtain ⟨rest, hp⟩ := c.rc
  refine PySem.W.method_cls I1.kIn c.ga (PySem.W.cls_bind I1.kIn c.rd c.at_ (wpAny_call (PySem.W.sm_get (s := { s1 with toks := s1.toks + 1 }) I1.kIn hp (PySem.W.handed_on rfl ?_))))
  have I2 := I1.tok (s1.toks + 1)
  refine PySem.W.callWith_K (first := []) (h₀ := X.base) I2.ok.mod.kin c.kp (thn (ha.run pos pins _ σ H1 _ I2 q) fun us s3 ⟨vs, H2, I3, rv, q2⟩ => ⟨I3.kIn, ?_⟩) hst hpl
  exact wpAny_call (run_fnR F hr hx I3 rv q2)
end
/-- what repr can tell -/
def Tells (K : PySem.W.Frag) (H : Hp) (v : V) (d : PyData) : Prop := Dp K H v d ∧ (∃ n m, Nice n m d ∧ n ≤ 1000000 ∧ m ≤ 60) ∧ ((∃ i, d = .int i) ∨ ∃ ds, items d = some ds)
def rReprD (K : PySem.W.Frag) : List V → Hp → VK → Prop := fun vs H Q => ∃ v d, vs = [v] ∧ Tells K H v d ∧ Q (.str d.shown) H
def tFmtD (K : PySem.W.Frag) (te : TE) : TE := fun σ H Q => te σ H fun x H1 => ∃ d, Tells K H1 x d ∧ Q (.str d.shown) H1
section
variable {X : Cx}
theorem cr_reprD (hg : X.A.guards = some []) (hu : X.A.units + 64 < cLine) : CallR X (.builtin "repr") (rReprD X.K) := by
  intro pins s σ H vs us Q I r h
  obtain ⟨v, d, rfl, ⟨hd, ⟨n, m, hn, hn1, hm1⟩, kind⟩, q⟩ := h
  obtain ⟨u, rfl, ru⟩ := r.one
  rcases kind with ⟨i, rfl⟩ | ⟨ds, hds⟩
  · cases hd
    obtain ⟨t, rfl⟩ := ru
    have hz : i.natAbs.log2 < 1920 := by have := hn.sw; rw [PyData.showable] at this; exact of_decide_eq_true this
    rw [PyData.shown] at q
    exact PySem.P.repr_of_int hz ⟨.str (toString i), H, I.tok _, ⟨_, rfl⟩, q⟩
  · obtain ⟨b, xs, rfl, _, _⟩ := items_at hd hds
    have ru' := ru
    cases ru
    obtain ⟨as, rd⟩ := Dp.reads I d (.ref b) _ hd ru'
    refine repr_of_reads' rd hn.sw (fun z => by rw [hn.nd] at z; cases z) hg (by have := hn.dp; omega) (fun _ _ z => z) (fun h' u tk kp => ?_) (hn.fits hn1)
    exact ⟨.str d.shown, H, I.kept (t' := tk) kp, ⟨u, rfl⟩, q⟩
theorem pe_fmtD {e : Expr} {te : TE} {pos : Pos} (hg : X.A.guards = some []) (hu : X.A.units + 64 < cLine) (he : PE X e te) : PE X (.FormattedValue e 114 none pos) (tFmtD X.K te) := by
  refine ⟨fun pins s σ H Q I h => ?_⟩
  refine wpAny_FormattedValue_repr (thn (he.run pins s σ H _ I h) fun u s1 hv => ?_)
  obtain ⟨x, H1, I1, r1, d, ⟨hd, ⟨n, m, hn, hn1, hm1⟩, kind⟩, q⟩ := hv
  rcases kind with ⟨i, rfl⟩ | ⟨ds, hds⟩
  · cases hd
    obtain ⟨t, rfl⟩ := r1
    have hz : i.natAbs.log2 < 1920 := by have := hn.sw; rw [PyData.showable] at this; exact of_decide_eq_true this
    rw [PyData.shown] at q
    exact pyReprObj_int hz (wpAny_formatField_str ⟨.str (toString i), H1, I1.tok _, ⟨_, rfl⟩, q⟩ ⟨.str (toString i), H1, I1.tok _, ⟨_, rfl⟩, q⟩ (int_text_fits hz))
  · obtain ⟨b, xs, rfl, _, _⟩ := items_at hd hds
    have ru' := r1
    cases r1
    obtain ⟨as, rd⟩ := Dp.reads I1 d (.ref b) _ hd ru'
    refine pyReprObj_of_reads rd hn.sw (fun z => by rw [hn.nd] at z; cases z) hg (by have := hn.dp; omega) (fun _ _ z => z) (fun h' u tk kp => ?_) (hn.fits hn1)
    have I2 := I1.kept (t' := tk) kp
    exact wpAny_formatField_str ⟨.str d.shown, H1, I2, ⟨_, rfl⟩, q⟩ ⟨.str d.shown, H1, I2.tok _, ⟨_, rfl⟩, q⟩ (hn.fits hn1)
end
/-! keywords -/
theorem kbn_of {K : PySem.W.Frag} {fd : FuncData} {ps ks : List Str} {n : Nat} (h : ∀ us ws : List Value, us.length = n → ws.length = ks.length → bindArgs fd ⟨us, ks.zip ws⟩ = pure (ps.zip (us ++ ws))) : KBn K fd ps n ks (fun us ws => us ++ ws) (fun vs zs => vs ++ zs) :=
  ⟨fun s us ws _ h1 h2 => .of_eq (h us ws h1 h2), fun r1 r2 => r1.append r2⟩
section
variable {X : Cx} {k n : Nat} {f C : Addr} {fd : FuncData} {ps ks : List Str} {sp : Sp} {x m : Str} {p pos apos : Pos} {o : Expr} {kws : List Keyword} {ta : TE} {tk : TA} {pl : Sem Bool}
theorem run_kw {pins : List (Addr × Obj)} {σ : L2.St} {H : Hp} {s : Shared} {Q : VK} {us ws : List Value} {vs zs : List V} (F : FnOk X.prog X.w X.K X.mg X.base CX0 k f fd ps sp) (hr : Room k X.A) (hb : KBn X.K fd ps n ks (fun us ws => us ++ ws) (fun vs zs => vs ++ zs))
    (I : Inv X pins σ H s) (r : Vals vs us) (rz : Vals zs ws) (l1 : us.length = n) (l2 : ws.length = ks.length) (h : sp (vs ++ zs) H Q E0) : wpAny (model X.prog X.w) X.A (call (.ref f) us (ks.zip ws)) (EP X pins σ Q) X.xe s := by
  have r2 := hb.rel r rz
  refine wpAny_call (codeAny_mono (F.run X.A X.stack s H ⟨us, ks.zip ws⟩ (us ++ ws) (vs ++ zs) Q E0 hr I.env0 (hb.to s us ws I.kIn l1 l2) r2 h) fun r s' hq => ?_)
  cases r with
  | error e => exact (show False from hq).elim
  | ok fl =>
    cases fl with
    | ret u => exact I.after hq
    | next => exact (show False from hq).elim
    | brk => exact (show False from hq).elim
    | cont => exact (show False from hq).elim
def tCallK0 (n : Nat) (sp : Sp) (tk : TA) : TE := fun σ H Q => tk σ H fun zs H2 => zs.length = n ∧ sp zs H2 Q E0
/-- f(k = v) -/
theorem pe_kw0 (F : FnOk X.prog X.w X.K X.mg X.base CX0 k f fd ps sp) (hr : Room k X.A) (hg : Gl X x) (hm : X.mg x = some (.ref f)) (hk : PySem.W.keepIn X.K (.ref f) = true) (hb : KBn X.K fd ps 0 ks (fun us ws => us ++ ws) (fun vs zs => vs ++ zs)) (hkw : PK X kws tk)
    (hall : (backToKw pos (keywordEach kws X.env)).all (·.1.isSome) = true := by rfl) (hks : (backToKw pos (keywordEach kws X.env)).filterMap (·.1) = ks := by rfl) (hdb : (x == ("__debug__" : Str)) = false := by decide)
    (hpl : ((backTo pos (starEach [] X.env)).any (·.1) || (backToKw pos (keywordEach kws X.env)).any (·.1.isNone)) = false := by rfl) :
    PE X (.Call (.Name x p) [] kws pos) (tCallK0 ks.length sp tk) := by
  refine ⟨fun pins s σ H Q I h => ?_⟩
  refine wpAny_Call_Name_kw (ld_glob I hg hm ?_ hdb)
  refine PySem.W.callWith_KW0 (h₀ := X.base) I.ok.mod.kin hk hall ?_ hpl
  refine thn (hkw.run pos pins s σ H _ I h) fun ws s2 ⟨zs, H2, I2, rz, l2, q2⟩ => ⟨I2.kIn, ?_⟩
  rw [hks]
  exact run_kw (us := []) (vs := []) F hr hb I2 .nil rz rfl (rz.length.symm.trans l2) q2
def tMethK0 (C : Addr) (m : Str) (n : Nat) (sp : Sp) (ta : TE) (tk : TA) : TE := fun σ H Q => ta σ H fun x H1 => ∃ a dx fs, x = .ref a ∧ H1 a = some (.ins C dx fs) ∧ fs.lookup m = none ∧ tk σ H1 fun zs H2 => zs.length = n ∧ sp (x :: zs) H2 Q E0
/-- o.m(k = v) -/
theorem pe_methK0 (he : PE X o ta) (c : Cls X.K C) (hm : Meth X.K C m f) (F : FnOk X.prog X.w X.K X.mg X.base CX0 k f fd ps sp) (hr : Room k X.A) (hb : KBn X.K fd ps 1 ks (fun us ws => us ++ ws) (fun vs zs => vs ++ zs)) (hkw : PK X kws tk)
    (hall : (backToKw pos (keywordEach kws X.env)).all (·.1.isSome) = true := by rfl) (hks : (backToKw pos (keywordEach kws X.env)).filterMap (·.1) = ks := by rfl)
    (hpl : ((backTo pos (starEach [] X.env)).any (·.1) || (backToKw pos (keywordEach kws X.env)).any (·.1.isNone)) = false := by rfl)
    (ht : eval (.Call (.Attribute o m apos) [] kws pos) X.env = (do
      let ov ← eval o X.env; standAt apos.atName; let (f, first) ← holding [ov] (getMethod ov m pl); callWith pos f first (backTo pos (starEach [] X.env)) (backToKw pos (keywordEach kws X.env))) := by rfl) :
    PE X (.Call (.Attribute o m apos) [] kws pos) (tMethK0 C m ks.length sp ta tk) := by
  refine ⟨fun pins s σ H Q I h => ?_⟩
  refine PySem.W.methodCall_KW (pl := pl) (thn (he.run pins s σ H _ I h) fun u s1 ⟨x, H1, I1, rx, a, dx, fs, ex, ea, l, q⟩ => ?_) ht
  subst ex
  obtain rfl : u = Value.ref a := rx
  refine getmeth_ok I1 ea c hm l ?_
  refine PySem.W.callWith_KW0 (first := [.ref a]) (h₀ := X.base) I1.ok.mod.kin hm.kp hall ?_ hpl
  refine thn (hkw.run pos pins s1 σ H1 _ I1 q) fun ws s2 ⟨zs, H2, I2, rz, l2, q2⟩ => ⟨I2.kIn, ?_⟩
  rw [hks]
  exact run_kw (us := [.ref a]) (vs := [.ref a]) F hr hb I2 (.cons rfl .nil) rz rfl (rz.length.symm.trans l2) q2
end
end Kh

set_option maxRecDepth 100000
set_option maxHeartbeats 1000000
/-! x in a list of data; f(k2 = v, k1 = u) -/
namespace Kh
open PySem PySem.Spec PyProof.Rows L2
theorem k_inD {X : Cx} {K : PySem.W.Frag} {k : Nat} (hr : Room k X.A) (h : X.K = K := by rfl) : OpR X (compareOp .In) (rInD K) := by subst h; exact op_inD (by have := hr.un; omega)
theorem vals_rev : ∀ {vs : List V} {us : List Value}, Vals vs us → Vals vs.reverse us.reverse
  | _, _, .nil => .nil
  | _, _, .cons r t => by rw [List.reverse_cons, List.reverse_cons]; exact (vals_rev t).append (.cons r .nil)
theorem kbr_of {K : PySem.W.Frag} {fd : FuncData} {ps ks : List Str} (h : ∀ ws : List Value, ws.length = ks.length → bindArgs fd ⟨[], ks.zip ws⟩ = pure (ps.zip ws.reverse)) : KBn K fd ps 0 ks (fun us ws => us ++ ws.reverse) (fun vs zs => vs ++ zs.reverse) :=
  ⟨fun s us ws _ h1 h2 => by
    rw [List.eq_nil_of_length_eq_zero h1]
    exact .of_eq (h ws h2), fun r1 r2 => r1.append (vals_rev r2)⟩
section
variable {X : Cx} {k : Nat} {f : Addr} {fd : FuncData} {ps ks : List Str} {sp : Sp} {x : Str} {p pos : Pos} {kws : List Keyword} {tk : TA}
def tCallKR (n : Nat) (sp : Sp) (tk : TA) : TE := fun σ H Q => tk σ H fun zs H2 => zs.length = n ∧ sp zs.reverse H2 Q E0
/-- f(k2 = v, k1 = u), the names the other way round -/
theorem pe_kwR (F : FnOk X.prog X.w X.K X.mg X.base CX0 k f fd ps sp) (hr : Room k X.A) (hg : Gl X x) (hm : X.mg x = some (.ref f)) (hk : PySem.W.keepIn X.K (.ref f) = true) (hb : KBn X.K fd ps 0 ks (fun us ws => us ++ ws.reverse) (fun vs zs => vs ++ zs.reverse)) (hkw : PK X kws tk)
    (hall : (backToKw pos (keywordEach kws X.env)).all (·.1.isSome) = true := by rfl) (hks : (backToKw pos (keywordEach kws X.env)).filterMap (·.1) = ks := by rfl) (hdb : (x == ("__debug__" : Str)) = false := by decide)
    (hpl : ((backTo pos (starEach [] X.env)).any (·.1) || (backToKw pos (keywordEach kws X.env)).any (·.1.isNone)) = false := by rfl) :
    PE X (.Call (.Name x p) [] kws pos) (tCallKR ks.length sp tk) := by
  refine ⟨fun pins s σ H Q I h => ?_⟩
  refine wpAny_Call_Name_kw (ld_glob I hg hm ?_ hdb)
  refine PySem.W.callWith_KW0 (h₀ := X.base) I.ok.mod.kin hk hall ?_ hpl
  refine thn (hkw.run pos pins s σ H _ I h) fun ws s2 ⟨zs, H2, I2, rz, l2, q2⟩ => ⟨I2.kIn, ?_⟩
  rw [hks]
  refine wpAny_call (codeAny_mono (F.run X.A X.stack s2 H2 ⟨[], ks.zip ws⟩ ([] ++ ws.reverse) ([] ++ zs.reverse) Q E0 hr I2.env0 (hb.to s2 [] ws I2.kIn rfl (rz.length.symm.trans l2)) (hb.rel .nil rz) q2) fun r s' hq => ?_)
  cases r with
  | error e => exact (show False from hq).elim
  | ok fl =>
    cases fl with
    | ret u => exact I2.after hq
    | next => exact (show False from hq).elim
    | brk => exact (show False from hq).elim
    | cont => exact (show False from hq).elim
end
end Kh

set_option maxRecDepth 100000
set_option maxHeartbeats 4000000
namespace Kh
open PySem PySem.Spec PyProof.Rows L2
/-! the law's promise where the guards are told -/
section
variable {P : Program} {w : World} {K : PySem.W.Frag} {mg mb : Str → Option Value} {s : Shared} {H : Hp} {a b : Addr} {o : Obj}
/-- what stands behind the top -/
structure Top (K : PySem.W.Frag) (mg mb : Str → Option Value) (s : Shared) : Prop where
  kin : K.In s.heap
  own : s.heap.Ns mainGlobals mg
  bui : s.heap.Ns builtinsNs mb
  boot : ∀ y : Str, y ≠ "__name__" → mb y = bootBuiltins y
  lim : s.heap.NoLimit
  gen : s.gens = #[]
/-- H knows frozen lists alone, none of them of K -/
def Thin (K : PySem.W.Frag) (s : Shared) (H : Hp) : Prop := ∀ c u, H c = some u → K.lookup c = none ∧ ∃ p xs v n, u = .frz p (.lst xs) ∧ s.heap.get? c = some p ∧ p.data = .seq v n
theorem Thin.get (t : Thin K s H) (g : s.heap.get? b = some o) (n : K.lookup b ≠ none ∨ ∃ es ep, o.data = .dict es ep) : (hidT s.heap H).get? b = some o := by
  refine hidT_get g (Classical.byContradiction fun z => ?_)
  obtain ⟨u, hu⟩ := Option.ne_none_iff_exists'.mp z
  obtain ⟨k, p, xs, v, m, _, g2, d⟩ := t b u hu
  rcases n with n | ⟨es, ep, n⟩
  · exact n k
  · rw [Option.some.inj (g.symm.trans g2), d] at n
    cases n
theorem Thin.ns {m : Str → Option Value} (t : Thin K s H) (h : s.heap.Ns b m) : (hidT s.heap H).Ns b m := by
  obtain ⟨p, es, ep, g, d, r⟩ := h
  exact ⟨p, es, ep, t.get g (.inr ⟨es, ep, d⟩), d, r⟩
theorem Thin.kin (t : Thin K s H) (h : K.In s.heap) : K.In (hidT s.heap H) := fun c p l => t.get (h c p l) (.inl (by rw [l]; exact fun z => nomatch z))
theorem Top.env (T : Top K mg mb s) (t : Thin K s H) (ok : HOk P w H s.heap) : Env0 P w K mg (hidT s.heap H) callerA [] s H where
  frames := rfl
  mod := ⟨t.kin T.kin, t.ns T.own, ⟨mb, t.ns T.bui, T.boot⟩, by
    obtain ⟨mc, l1, l2⟩ := T.lim
    exact ⟨mc, t.ns l1, l2⟩⟩
  bs := fun _ _ g => of_hidT g
  bsz := Nat.le_of_eq (hidT_size _ _)
  funs := trivial
  frf := fun _ z => nomatch z
  hok := ok
  bare := .of_eq T.gen
/-- a call of the law has ended so -/
theorem Thin.done (t : Thin K s H) (ok : HOk P w H s.heap) {r : Result} {s' : Shared} (h : CR CX0 [] P w H s (fun v _ => v = .bl true) (fun _ _ _ => False) r s') : r = .ok (.ret (.bool true)) ∧ OldK s.heap s'.heap ∧ s'.os = s.os ∧ AllBare s'.gens := by
  match r, h with
  | .ok (.ret u), ⟨v, H', eo, ab, n, ok', rv, q⟩ =>
    have q : v = .bl true := q
    rw [q] at rv
    have rv : u = Value.bool true := rv
    refine ⟨by rw [rv], OldK.of_keep fun c p g => ?_, eo, ab⟩
    cases e : H c with
    | none => exact n.keep c p g e (fun z => nomatch z) (fun z => nomatch z)
    | some x =>
      obtain ⟨_, p', xs, _, _, rfl, _⟩ := t c x e
      rw [(ok c _ e).1] at g
      rw [← g]
      exact (ok' c _ (n.frzs c p' _ e)).1
/-- the script, known -/
theorem thin_of {vs : List Value} {ns : List Int} (T : Top K mg mb s) (g : s.heap.get? a = some { cls := .type "list", data := .seq vs.toArray }) (r : IntsAre vs ns) (l : ns.length ≤ sizeLine) : ∃ H, Thin K s H ∧ HOk P w H s.heap ∧ SqL K H a (ns.map V.int) := by
  by_cases k : K.lookup a = none
  · refine ⟨upd (fun _ => none) a (.frz { cls := .type "list", data := .seq vs.toArray } (.lst (ns.map V.int))), ?_, ?_, .inl (.inr ⟨_, upd_same⟩)⟩
    all_goals
      intro c u hu
      by_cases e : c = a
      · rw [e, upd_same] at hu
        obtain rfl := Option.some.inj hu
        rw [e]
        first
          | exact ⟨k, _, _, _, _, rfl, g, rfl⟩
          | exact ⟨g, by rw [List.length_map]; exact l, vs, _, vals_ints r, g⟩
      · rw [upd_ne e] at hu
        cases hu
  · obtain ⟨p, hp⟩ := Option.ne_none_iff_exists'.mp k
    obtain rfl := Option.some.inj (g.symm.trans (T.kin a p hp))
    exact ⟨fun _ => none, fun _ _ z => (nomatch z), fun _ _ z => (nomatch z), .inr ⟨_, vs.toArray, _, hp, rfl, rfl, rfl, by rw [List.size_toArray, r.length]; exact l, by simpa using vals_ints r⟩⟩
end
/-- from the promise of the law's def to the walk of the law -/
theorem walk_g {l : PySem.W.OpenLaw} {n k : Nat} {q : Program} {loose : List Str} {XP : (Str → Option Value) → Heap → Prop} {YP : World → Heap → Prop} {d : DefRec} {K : Params → PySem.W.Frag} {sp : World → Sp} {x : Str} (most : l.most = some n) (le : n ≤ sizeLine) (df : d.params.defaults = []) (room : Room k callerA)
    (kin : ∀ (w : World) (h : Heap), YP w h → (K w.params).In h)
    (F : ∀ (w : World) (mg : Str → Option Value) (fa : Addr) (h : Heap), (K w.params).In h → h.Ns mainGlobals mg → mg d.name = some (.ref fa) → ∃ fd : FuncData, (∀ (s : Shared) (u : Value), BindsTo s fd ⟨[u], []⟩ [(x, u)]) ∧ ∀ base : Heap, (K w.params).In base → base.Ns mainGlobals mg → FnG l.prog w (K w.params) mg base k fa fd [x] (sp w))
    (holds : ∀ (w : World) (H : Hp) (a : Addr) (ns : List Int), ns.length ≤ n → SqL (K w.params) H a (ns.map V.int) → sp w [.ref a] H (fun v _ => v = .bl true) fun _ _ _ => False) : PySem.W.WalkO q loose XP YP l.row.toRowW d [] (fun f vs => PySem.call f vs) :=
  Att.attach_call most df fun w _ s mg mb fa _ _ _ _ a vs ns G Y _ _ _ hf hs hi hl hg => by
    have T : Top (K w.params) mg mb s := ⟨kin w _ Y, G.T.g, G.T.b, G.T.builtins, G.T.nolimit, hg⟩
    obtain ⟨fd, bd, R⟩ := F w mg fa _ T.kin T.own hf
    obtain ⟨H, t, ok, sq⟩ := thin_of (P := l.prog) (w := w) T hs hi (Nat.le_trans hl le)
    exact codeAny_mono ((R _ (t.kin T.kin) (t.ns T.own)).run callerA [] s H ⟨[.ref a], []⟩ [.ref a] [.ref a] _ _ rfl room (T.env t ok) (bd s (.ref a)) (.cons rfl .nil) (holds w H a ns hl sq)) fun r s' h => t.done ok h
end Kh

set_option maxRecDepth 100000
set_option maxHeartbeats 4000000
namespace K31
open PySem PySem.Spec PyProof.Rows L2 Kh
section
variable {P : Program} {w : World} {K : PySem.W.Frag} {mg : Str → Option Value} {base : Heap} {a : Nat → Addr} {fd : Nat → FuncData} {C : Addr} {tk : Nat → Tok}
theorem con_con : ∀ t, Wf t → con (con t) = flg false t := Kh.T.ind (fun n _ => by rw [con_leaf, con_leaf, flg_leaf]) fun b k ps ih h => by
  obtain ⟨h1, h2, h3⟩ := (wf_gate b k ps).mp h
  rw [con_gate, con_gate, flg_gate, List.length_map, List.map_map]
  have e : ps.length + 1 - (ps.length + 1 - k) = k := by omega
  rw [e]
  congr 1
  exact List.map_congr_left fun p hp => ih p hp (h3 p hp)
theorem filt_not {α : Type} {p q : α → Bool} : ∀ {l : List α}, (∀ x ∈ l, p x = !q x) → (l.filter p).length + (l.filter q).length = l.length
  | [], _ => rfl
  | x :: l, h => by
    have ih := filt_not (l := l) fun y hy => h y (List.mem_cons_of_mem _ hy)
    rw [List.filter_cons, List.filter_cons, h x List.mem_cons_self, List.length_cons]
    cases q x <;> simp <;> omega
theorem st_con (s s' : List Nat) : ∀ t, Wf t → (∀ n ∈ lv t, n ∈ s ↔ n ∉ s') → st s (con t) = !st s' t := Kh.T.ind (fun n _ h => by
  rw [con_leaf, st_leaf, st_leaf]
  have := h n (by rw [lv_leaf]; exact List.mem_singleton.mpr rfl)
  by_cases c : n ∈ s'
  · rw [decide_eq_true c, decide_eq_false (fun z => (this.mp z) c)]; rfl
  · rw [decide_eq_false c, decide_eq_true (this.mpr c)]; rfl) fun b k ps ih wf h => by
  obtain ⟨h1, h2, h3⟩ := (wf_gate b k ps).mp wf
  rw [con_gate, st_gate, st_gate, List.filter_map, List.length_map]
  have e := filt_not (p := st s ∘ con) (q := st s') (l := ps) fun p hp => ih p hp (h3 p hp) fun n hn => h n (by rw [lv_gate]; exact List.mem_flatMap.mpr ⟨p, hp, hn⟩)
  by_cases c : k ≤ (ps.filter (st s')).length
  · rw [decide_eq_true c, decide_eq_false (by omega)]; rfl
  · rw [decide_eq_false c, decide_eq_true (by omega)]; rfl
open Classical in
theorem sameT_refl (t : Kh.T) : sameT t t = true := decide_eq_true rfl
theorem tells_list {K : PySem.W.Frag} {H : Hp} {v : V} {ds : List PyData} {n m : Nat} (h : Dp K H v (.list ds)) (hn : Nice n m (.list ds)) (h1 : n ≤ 1000000) (h2 : m ≤ 60) : Tells K H v (.list ds) := ⟨h, ⟨n, m, hn, h1, h2⟩, .inr ⟨ds, rfl⟩⟩
theorem ne_self {x : Str} {H : Hp} {Q : VK} (q : Q (.bl false) H) : rNe (.str x) (.str x) H Q := ⟨rfl, by
  have e : (!decide (V.str x = V.str x)) = false := by simp
  rw [e]; exact q⟩
theorem eq_self {x : Str} {H : Hp} {Q : VK} (q : Q (.bl true) H) : rEq (.str x) (.str x) H Q := ⟨rfl, by
  have e : decide (V.str x = V.str x) = true := by simp
  rw [e]; exact q⟩
theorem eqv_nL (m : List Nat) : PyData.eqv (nL m) (nL m) = true := eqv_list fun d hd => by
  obtain ⟨n, _, rfl⟩ := List.mem_map.mp hd
  exact eqv_int _
theorem eqv_nLL (L : List (List Nat)) : PyData.eqv (nLL L) (nLL L) = true := eqv_list fun d hd => by
  obtain ⟨n, _, rfl⟩ := List.mem_map.mp hd
  exact eqv_nL _
def spIsIn (K : PySem.W.Frag) : Sp := fun vs H Q _ => ∃ (S : Addr → Prop) (L : List (List Nat)) (s l : List Nat) (v1 v2 v3 : V), vs = [v1, v2, v3] ∧ Kn S H ∧ Dp K (off S H) v1 (nLL L) ∧ Dp K (off S H) v2 (nL s) ∧ Dp K (off S H) v3 (nL l) ∧ l ∈ L ∧ l.Pairwise (· < ·) ∧ (∀ n ∈ l, n ∈ s) ∧ (∀ m ∈ L, (∀ n ∈ m, n < 256) ∧ m.length ≤ 8) ∧ L.length ≤ 128 ∧ ∀ H', Same H H' → Q (.bl true) H'
theorem ok__law_is_in (T : Txt K mg a fd C tk) : FnG P w K mg base 2 (a 57) (fd 57) ["_law_rows_now", "_law_some", "_law_told"] (spIsIn K) := by
  refine fun_okG T.F__law_is_in sc__law_is_in (fun vs H Q E h => by obtain ⟨_, _, _, _, _, _, _, rfl, _⟩ := h; rfl) (fun cdv A outer s H vs Q E hg hr h => ?_)
  obtain ⟨S, L, ss, l, v1, v2, v3, rfl, kn, d1, d2, d3, hl, rise, sub, small, l128, q⟩ := h
  refine ⟨_, (pss_one (ps_ret (pe_and (pe_cmpR op_eq (pe_callB (cr_reprD hg hr.units) (by rfl) T.z_repr (by decide +kernel) (pa_cons (pv 2) pa_nil)) (pe_callB (cr_reprD hg hr.units) (by rfl) T.z_repr (by decide +kernel) (pa_cons (pe_callB (k_sortM (K := K) hr.units) (by rfl) T.z_sorted (by decide +kernel) (pa_cons (pv 2) pa_nil)) pa_nil)) (nomark _)) (pe_and (pe_cmpR (k_inD (K := K) hr) (pv 2) (pv 0) (by rfl)) (pe_one (pe_callB (k_all (K := K) rfl) (by rfl) T.z_all (by decide +kernel) (pa_cons (pe_lc (own := [("_law_name", 3)]) (g := gName 3) (tt := tYes) rfl sc__law_is_in.nd (k_pi (K := K) (pv 2)) (blkOk_by (own := [("_law_name", 3)]) (N := _law_is_in_N) (sc := defScope _law_is_in_s) (by decide +kernel)) (fun _ _ _ _ _ => (pg_name (i := 3) sc__law_is_in.nd rfl (Or.inl rfl))) (fun _ _ _ _ _ => pts_nil) (fun _ _ _ _ _ => (pe_cmpR (k_in (K := K)) (pv 3) (pv 1) (by rfl)))) pa_nil))))))), ?_⟩
  obtain ⟨sm1, sm2⟩ := small l hl
  have nice := nice_nLs sm1 sm2
  refine s_ret (t_andV (t_op (t_cb1 (t_var rfl ⟨_, _, rfl, tells_list (dp_same off_sub _ _ d3) nice (by decide) (by decide), t_cb1 (t_cb1 (t_var rfl (sort_nn kn d3 fun u H1 s1 du => ?_)))⟩))))
  rw [srt_rised rise] at du
  refine ⟨_, _, rfl, tells_list (dp_same off_sub _ _ du) nice (by decide) (by decide), eq_self ⟨_, rfl, ifT rfl ?_⟩⟩
  have kn1 := kn.same s1
  have e1 := dp_same (off_same s1) _ _ d1
  have e2 := dp_same (off_same s1) _ _ d2
  have e3 := dp_same (off_same s1) _ _ d3
  refine t_andV (t_op (t_var rfl (t_var rfl ⟨_, _, dp_same off_sub _ _ e3, dp_same off_sub _ _ e1, shaped_nL _, (nice_nLL small l128).shaped (by decide), ?_⟩)))
  have any : ((L.map nL).any fun z => PyData.eqv z (nL l)) = true := List.any_eq_true.mpr ⟨nL l, List.mem_map.mpr ⟨l, hl, rfl⟩, eqv_nL l⟩
  rw [any]
  refine ⟨_, rfl, ifT rfl (t_cb1 (lcM false l nD (fun n => .bool true) kn1 (fun Q q => t_var rfl (q _ _ (Same.refl _) e3)) (by omega) (fun _ => rfl) (fun n hn x H2 S2 s2 kn2 dx hS ho Q q => ?_) fun D H2 ys hD s2 hd2 h2 => ?_))⟩
  · cases dx
    refine t_op (t_var rfl (t_var rfl (in_nL (dp_same ho _ _ e2) (q _ _ (Same.refl _) (dp_bl (decide_eq_true (sub n hn)))))))
  · refine all_d (bs := l.map fun _ => true) off_sub (by rw [List.map_map]; exact h2) ?_
    have e : (l.map fun _ => true).all id = true := List.all_eq_true.mpr fun b hb => by
      obtain ⟨_, _, rfl⟩ := List.mem_map.mp hb; rfl
    rw [e]; exact q H2 (s1.trans s2)
theorem t_krr {n : Nat} {sp : Sp} {tk : TA} {σ : L2.St} {H : Hp} {Q : VK} (h : tk σ H fun zs H2 => zs.length = n ∧ sp zs.reverse H2 Q E0) : tCallKR n sp tk σ H Q := h
theorem rev_nL {S : Addr → Prop} {H : Hp} {v : V} {m : List Nat} {σ : L2.St} {i : Nat} {Q : VK} (hi : σ[i]? = some (some v)) (kn : Kn S H) (h : Dp K (off S H) v (nL m)) (q : ∀ p H', Same H H' → Dp K (off S H') p (nL m.reverse) → Q p H') : tRevL K (tVar i) σ H Q := by
  refine (show tVar i σ H (fun x H1 => ∃ a xs, x = .ref a ∧ SqL K H1 a xs ∧ ∀ p, H1 p = none → Q (.ref p) (upd H1 p (.lst xs.reverse))) from t_var hi ?_)
  obtain ⟨l, xs, rfl, h1, d1⟩ := list_at h
  refine ⟨l, xs, rfl, off_sub.seq h1, fun p hp => q _ _ (same_new hp) (dp_newL kn hp ?_)⟩
  have ex := dpa_nats d1
  subst ex
  rw [← List.map_reverse]
  exact nats_dpa _
abbrev kwR (K : PySem.W.Frag) (fd : FuncData) (p1 p2 : Str) : Prop := KBn K fd [p1, p2] 0 [p2, p1] (fun us ws => us ++ ws.reverse) (fun vs zs => vs ++ zs.reverse)
def spAmongR (K : PySem.W.Frag) (C : Addr) : Sp := fun vs H Q _ => ∃ (S : Addr → Prop) (t : Kh.T) (x : Addr) (v vt vn vf : V), vs = [.ref x, v, vt, vn, vf] ∧ Kn S H ∧ TreeAt K C (off S H) t x ∧ Okt t ∧ (mem t).length ≤ 7 ∧ Dp K (off S H) v (tD t) ∧ Dp K (off S H) vt (nL (mem t)) ∧ Dp K (off S H) vn (nLL (smeets t)) ∧ Dp K (off S H) vf (nLL (smeets (con t))) ∧ ∀ H', Same H H' → Q (.bl true) H'
theorem smeets_small {t : Kh.T} (h : (mem t).length ≤ 7) : (∀ m ∈ smeets t, (∀ n ∈ m, n < 256) ∧ m.length ≤ 8) ∧ (smeets t).length ≤ 128 :=
  ⟨fun m hm => sub_small (by omega) (smeets_mem.mp hm).1, by rw [(smeets_perm t).length_eq]; exact meets_few h⟩
theorem neD_self {S : Addr → Prop} {H : Hp} {u v : V} {m : List Nat} {Q : VK} (h1 : Dp K (off S H) u (nL m)) (h2 : Dp K (off S H) v (nL m)) (q : Q (.bl false) H) : rNeD K u v H Q := by
  refine ⟨_, _, dp_same off_sub _ _ h1, dp_same off_sub _ _ h2, shaped_nL _, shaped_nL _, ?_⟩
  rw [eqv_nL]; exact q
theorem ok__law_among_right (T : Txt K mg a fd C tk) (U : TxC K mg a C) (kw_meeting_among : kwR K (fd 36) "tree" "houses") : FnG P w K mg base 14 (a 58) (fd 58) ["_law_plant", "_law_sketch", "_law_tags", "_law_near", "_law_far"] (spAmongR K C) := by
  have G__law_lists := ok__law_lists (P := P) (w := w) (base := base) T
  have G__law_stands := ok__law_stands (P := P) (w := w) (base := base) T 6
  have G_meeting_among := ok_meeting_among (P := P) (w := w) (base := base) T U
  have G_cut_among := ok_cut_among (P := P) (w := w) (base := base) T U
  have G__law_is_in := ok__law_is_in (P := P) (w := w) (base := base) T
  refine fun_okG T.F__law_among_right sc__law_among_right (fun vs H Q E h => by obtain ⟨_, _, _, _, _, _, _, rfl, _⟩ := h; rfl) (fun cdv A outer s H vs Q E hg hr h => ?_)
  obtain ⟨S, t, x, v, vt, vn, vf, rfl, kn, ht, ok, m7, hd, dt, dn, df, q⟩ := h
  refine ⟨_, (pss_cons (ps_for PassesOwn.never rfl (k_pi (K := K) (pe_call G__law_lists (hr.mono (by omega)) (by rfl) T.m__law_lists T.F__law_lists.kp T.b__law_lists .nil pass0 (pa_cons (pv 2) pa_nil))) (pg_name (i := 5) sc__law_among_right.nd rfl (Or.inr rfl))
        (pss_cons (ps_setLc (i := 6) (own := [("_law_name", 11)]) (g := gName 11) (tt := _) rfl sc__law_among_right.nd rfl rfl (sw_true rfl rfl rfl (by decide +kernel)) (k_pi (K := K) (pv 2)) (blkOk_by (own := [("_law_name", 11)]) (N := _law_among_right_N) (sc := defScope _law_among_right_s) (by decide +kernel)) (fun _ _ _ _ _ => (pg_name (i := 11) sc__law_among_right.nd rfl (Or.inl rfl))) (fun _ _ _ _ _ => (pts_one (pt_cmpR (k_notIn (K := K)) (pv 11) (pv 5) (by rfl)))) (fun _ _ _ _ _ => (pv 11)))
        (pss_cons (ps_par (i := 7) (j := 8) (by rfl) sc__law_among_right.nd rfl rfl (by decide) rfl rfl (pa_cons (pe_revL (pv 5)) (pa_cons (pe_callTy (k_list (K := K)) (by rfl) T.z_list (by decide +kernel) (pa_cons (pv 6) pa_nil)) pa_nil)) (by rfl))
        (pss_cons (ps_par (i := 9) (j := 10) (by rfl) sc__law_among_right.nd rfl rfl (by decide) rfl rfl (pa_cons (pe_kwR (ks := ["houses", "tree"]) G_meeting_among (hr.mono (by omega)) (by rfl) T.m_meeting_among T.F_meeting_among.kp kw_meeting_among (pk_cons (pv 7) (pk_cons (pv 0) pk_nil))) (pa_cons (pe_call G_cut_among (hr.mono (by omega)) (by rfl) T.m_cut_among T.F_cut_among.kp T.b_cut_among .nil pass0 (pa_cons (pv 0) (pa_cons (pv 8) pa_nil))) pa_nil)) (by rfl))
        (pss_cons (ps_if (PW.pt (pw_or (pt_cmpR (k_neD (K := K) hr.units) (pv 7) (pe_revL (pv 5)) (nomark _)) (pw_or1 (pt_cmpR (k_neD (K := K) hr.units) (pv 8) (pv 6) (nomark _)))))
          (pss_one (ps_ret pe_bl)) pss_nil)
        (pss_cons (ps_if (PW.pt (pw_or (pt_cmpR op_eq (pe_cmpR op_isN (pv 9) pe_non (nomark _)) (pe_cmpR op_isN (pv 10) pe_non (nomark _)) (nomark _)) (pw_or1 (pt_cmpR op_ne (pe_cmpR op_notN (pv 9) pe_non (nomark _)) (pe_call G__law_stands (hr.mono (by omega)) (by rfl) T.m__law_stands T.F__law_stands.kp T.b__law_stands .nil pass0 (pa_cons (pv 1) (pa_cons (pv 5) pa_nil))) (nomark _)))))
          (pss_one (ps_ret pe_bl)) pss_nil)
        (pss_cons (ps_if (PW.pt (pw_and (pt_cmpR op_notN (pv 9) pe_non (nomark _)) (pw_and1 (pt_not (pt_val (pe_callG (runsG G__law_is_in hg T.b__law_is_in) (hr.mono (by omega)) (by rfl) T.m__law_is_in T.F__law_is_in.kp (pa_cons (pv 3) (pa_cons (pv 5) (pa_cons (pv 9) pa_nil)))))))))
          (pss_one (ps_ret pe_bl)) pss_nil)
        (pss_one (ps_if (PW.pt (pw_and (pt_cmpR op_notN (pv 10) pe_non (nomark _)) (pw_and1 (pt_not (pt_val (pe_callG (runsG G__law_is_in hg T.b__law_is_in) (hr.mono (by omega)) (by rfl) T.m__law_is_in T.F__law_is_in.kp (pa_cons (pv 4) (pa_cons (pv 6) (pa_cons (pv 10) pa_nil)))))))))
          (pss_one (ps_ret pe_bl)) pss_nil)))))))))
      (pss_one (ps_ret pe_bl))), ?_⟩
  refine s_seq (forM false (llists (mem t)) nL kn (fun Q q => t_call1 (t_var rfl ⟨S, mem t, kn, .cons dt .nil, by show (mem t).length ≤ 8; omega, fun u H1 s1 d1 => q u H1 s1 d1⟩)) fun H1 s1 kn1 => ?_)
  refine ⟨fun i σ' H' => ∃ x5 x6 x7 x8 x9 x10 x11, σ' = [some (.ref x), some v, some vt, some vn, some vf, x5, x6, x7, x8, x9, x10, x11] ∧ Same H1 H', ⟨_, _, _, _, _, _, _, rfl, Same.refl _⟩, fun i σ' H' ⟨_, _, _, _, _, _, _, _, s⟩ => off_sub.trans s, ?_, ?_⟩
  · rintro i m xm σ' H2 mi hi hm dm ⟨x5, x6, x7, x8, x9, x10, x11, rfl, s2⟩
    have hsub := llists_mem.mp hm
    have m24 := hsub.length_le
    have s12 := s1.trans s2
    have knA : ∀ {H'}, Same H1 H' → Kn S H' := fun {H'} s => kn1.same s
    have dmA : ∀ {H'}, Same H1 H' → Dp K (off S H') xm (nL m) := fun {H'} s => dp_same (off_same s) _ _ dm
    have dtA : ∀ {H'}, Same H1 H' → Dp K (off S H') vt (nL (mem t)) := fun {H'} s => dp_same (off_same (s1.trans s)) _ _ dt
    have htA : ∀ {H'}, Same H1 H' → TreeAt K C (off S H') t x := fun {H'} s => ht.same (off_same (s1.trans s))
    have hdA : ∀ {H'}, Same H1 H' → Dp K (off S H') v (tD t) := fun {H'} s => dp_same (off_same (s1.trans s)) _ _ hd
    have dnA : ∀ {H'}, Same H1 H' → Dp K (off S H') vn (nLL (smeets t)) := fun {H'} s => dp_same (off_same (s1.trans s)) _ _ dn
    have dfA : ∀ {H'}, Same H1 H' → Dp K (off S H') vf (nLL (smeets (con t))) := fun {H'} s => dp_same (off_same (s1.trans s)) _ _ df
    refine g_name (s_seq (s_set (lcF false (mem t) (fun n => !decide (n ∈ m)) nD nD (knA s2) (fun Q q => t_var rfl (q _ _ (Same.refl _) (dtA s2))) (by omega) (fun _ => rfl) (fun n hn y H3 S3 s3 kn3 dy hS ho Q q => ?_) (fun n hn pn y H3 S3 s3 kn3 dy hS ho Q q => t_var rfl (q _ _ (Same.refl _) dy)) fun R H3 ys hR s3 hR3 d3 => nx_of ?_)))
    · cases dy
      exact b_test (t_op (t_var rfl (t_var rfl (notIn_nL (dp_same ho _ _ (dmA s2)) ⟨_, rfl, q _ (Same.refl _)⟩))))
    generalize hrest : (mem t).filter (fun n => !decide (n ∈ m)) = rest at d3
    have d3' : Dp K (off S H3) (.ref R) (nL rest) := d3
    have s13 := s2.trans s3
    have restM : ∀ n ∈ rest, n ∈ mem t := fun n hn => by rw [← hrest] at hn; exact (List.mem_filter.mp hn).1
    have restI : ∀ n ∈ mem t, (n ∈ rest ↔ n ∉ m) := fun n hn => by
      rw [← hrest, List.mem_filter]; simp [hn]
    have restS : rest.Sublist (mem t) := by rw [← hrest]; exact List.filter_sublist
    have nMem := mem_nodup t
    have rl := restS.length_le
    refine s_seq (a_cons (rev_nL rfl (knA s13) (dmA s13) fun Hd H4 s4 d4 => a_cons (t_cb1 (t_var rfl (list_d (knA (s13.trans s4)) (dp_same (off_same s4) _ _ d3') rfl fun O xs hO ha d5 => a_nil ⟨_, _, rfl, nx_of ?_⟩)))))
    have s5 := same_new (o := HO.lst xs) hO
    generalize upd H4 O (.lst xs) = H5 at *
    have s15 := s13.trans (s4.trans s5)
    have d5' : Dp K (off S H5) (.ref O) (nL rest) := d5
    have mrev : ∀ n ∈ m.reverse, n ∈ mem t := fun n hn => hsub.subset (List.mem_reverse.mp hn)
    have ndm : m.reverse.Nodup := (List.reverse_perm m).nodup_iff.mpr (nMem.sublist hsub)
    have em : st m.reverse t = st m t := st_same fun n _ => List.mem_reverse
    have ec : st rest (con t) = !st m t := st_con rest m t ok.1 fun n hn => restI n ((mem_iff ok.1 n).mpr hn)
    have sm : srt m.reverse = m := rise_eqN (srt_rise ndm) ((mem_rise t).sublist hsub) fun k => by rw [srt_mem, List.mem_reverse]
    have sr : srt rest = rest := srt_rised ((mem_rise t).sublist restS)
    have hdH : ∀ {H'}, Same H5 H' → Dp K (off S H') Hd (nL m.reverse) := fun {H'} s => dp_same (off_same (s5.trans s)) _ _ d4
    have dOv : ∀ {H'}, Same H5 H' → Dp K (off S H') (.ref O) (nL rest) := fun {H'} s => dp_same (off_same s) _ _ d5'
    have dRe : ∀ {H'}, Same H5 H' → Dp K (off S H') (.ref R) (nL rest) := fun {H'} s => dp_same (off_same ((s4.trans s5).trans s)) _ _ d3'
    have ne1 : ∀ l : Addr, decide (V.ref l = V.non) = false := fun l => decide_eq_false fun h => nomatch h
    have nn1 : decide (V.non = V.non) = true := decide_eq_true rfl
    have pw := smeets_small m7
    have pwc := smeets_small (t := con t) (by rw [mem_con]; exact m7)
    cases est : st m t with
    | true =>
      refine s_seq (a_cons (t_krr (a_cons (t_var rfl (a_cons (t_var rfl (a_nil ⟨rfl, S, t, x, Hd, m.reverse, rfl, knA s15, htA s15, ok, hdH (Same.refl _), mrev, ndm, fun H' e s' => ?_, fun u1 H6 l e s6 d6 lsub lb => ?_⟩)))))))
      · rw [em, est] at e; cases e
      rw [sm] at lsub
      refine a_cons (t_call2 (t_var rfl (t_var rfl ⟨S, t, x, .ref O, rest, rfl, knA (s15.trans s6), htA (s15.trans s6), ok, dOv s6, restM, nMem.sublist restS, fun H7 e7 s7 => a_nil ⟨_, _, rfl, nx_of ?_⟩, fun u2 H7 l2 e7 => ?_⟩)))
      rotate_left
      · rw [ec, est] at e7; cases e7
      have s57 := s6.trans s7
      have d7 := dp_same (off_same s7) _ _ d6
      obtain ⟨la, xs, rfl, _, _⟩ := list_at (ds := l.map nD) d7
      have s17 := s15.trans s57
      refine s_seq (s_if (b_or (b_test (t_op (t_var rfl (rev_nL rfl (knA s17) (dmA s17) fun p H8 s8 d8 => neD_self (hdH (s57.trans s8)) d8 ⟨_, rfl, ifF rfl (b_test (t_op (t_var rfl (t_var rfl (neD_self (dOv (s57.trans s8)) (dRe (s57.trans s8)) ⟨_, rfl, ifF rfl (s_next ?_)⟩)))))⟩))))))
      have s18 := s17.trans s8
      refine s_seq (s_if (b_or (b_test (t_op (t_op (t_var rfl (t_c ⟨rfl, t_op (t_var rfl (t_c ⟨rfl, ⟨rfl, ⟨_, rfl, ifF (by rw [ne1, nn1]; rfl) ?_⟩⟩⟩))⟩)))))))
      refine b_test (t_op (t_op (t_var rfl (t_c ⟨rfl, t_call2 (t_var rfl (t_var rfl ⟨S, (t, false, m), knA s18, .cons (hdA s18) (.cons (dmA s18) .nil), preOf ok, fun b H9 s9 db => ?_⟩))⟩))))
      replace db : Dp K (off S H9) b (.bool (st m t)) := db
      rw [est] at db
      cases db
      refine ⟨rfl, ⟨_, rfl, ifF (by rw [ne1]; rfl) (s_next ?_)⟩⟩
      have s19 := s18.trans s9
      refine s_seq (s_if (b_and (b_test (t_op (t_var rfl (t_c ⟨rfl, ⟨_, rfl, ifT (by rw [ne1]; rfl) (b_not (b_val (t_call3 (t_var rfl (t_var rfl (t_var rfl ⟨S, smeets t, m, l, _, _, _, rfl, knA s19, dnA s19, dmA s19, dp_same (off_same (s8.trans s9)) _ _ d7, smeets_mem.mpr ⟨lsub.trans hsub, lb⟩, (mem_rise t).sublist (lsub.trans hsub), fun n hn => lsub.subset hn, pw.1, pw.2, fun H10 s10 => ⟨_, rfl, ifF rfl (s_next ?_)⟩⟩))))))⟩⟩))))))
      refine s_if (b_and (b_test (t_op (t_var rfl (t_c ⟨rfl, ⟨_, rfl, ifF (by rw [nn1]; rfl) (ifF rfl (s_next ⟨_, _, _, _, _, _, _, rfl, s19.trans s10⟩))⟩⟩)))))
    | false =>
      refine s_seq (a_cons (t_krr (a_cons (t_var rfl (a_cons (t_var rfl (a_nil ⟨rfl, S, t, x, Hd, m.reverse, rfl, knA s15, htA s15, ok, hdH (Same.refl _), mrev, ndm, fun H6 e s6 => ?_, fun u1 H6 l e => ?_⟩)))))))
      rotate_left
      · rw [em, est] at e; cases e
      refine a_cons (t_call2 (t_var rfl (t_var rfl ⟨S, t, x, .ref O, rest, rfl, knA (s15.trans s6), htA (s15.trans s6), ok, dOv s6, restM, nMem.sublist restS, fun H7 e7 s7 => ?_, fun u2 H7 l e7 s7 d7 lsub lb => a_nil ⟨_, _, rfl, nx_of ?_⟩⟩)))
      · rw [ec, est] at e7; cases e7
      rw [sr] at lsub
      have s57 := s6.trans s7
      obtain ⟨la, xs, rfl, _, _⟩ := list_at (ds := l.map nD) d7
      have s17 := s15.trans s57
      refine s_seq (s_if (b_or (b_test (t_op (t_var rfl (rev_nL rfl (knA s17) (dmA s17) fun p H8 s8 d8 => neD_self (hdH (s57.trans s8)) d8 ⟨_, rfl, ifF rfl (b_test (t_op (t_var rfl (t_var rfl (neD_self (dOv (s57.trans s8)) (dRe (s57.trans s8)) ⟨_, rfl, ifF rfl (s_next ?_)⟩)))))⟩))))))
      have s18 := s17.trans s8
      refine s_seq (s_if (b_or (b_test (t_op (t_op (t_var rfl (t_c ⟨rfl, t_op (t_var rfl (t_c ⟨rfl, ⟨rfl, ⟨_, rfl, ifF (by rw [ne1, nn1]; rfl) ?_⟩⟩⟩))⟩)))))))
      refine b_test (t_op (t_op (t_var rfl (t_c ⟨rfl, t_call2 (t_var rfl (t_var rfl ⟨S, (t, false, m), knA s18, .cons (hdA s18) (.cons (dmA s18) .nil), preOf ok, fun b H9 s9 db => ?_⟩))⟩))))
      replace db : Dp K (off S H9) b (.bool (st m t)) := db
      rw [est] at db
      cases db
      refine ⟨rfl, ⟨_, rfl, ifF (by rw [nn1]; rfl) (s_next ?_)⟩⟩
      have s19 := s18.trans s9
      refine s_seq (s_if (b_and (b_test (t_op (t_var rfl (t_c ⟨rfl, ⟨_, rfl, ifF (by rw [nn1]; rfl) (ifF rfl (s_next ?_))⟩⟩))))))
      have lmem : l ∈ smeets (con t) := smeets_mem.mpr ⟨by rw [mem_con]; exact lsub.trans restS, lb⟩
      exact s_if (b_and (b_test (t_op (t_var rfl (t_c ⟨rfl, ⟨_, rfl, ifT (by rw [ne1]; rfl) (b_not (b_val (t_call3 (t_var rfl (t_var rfl (t_var rfl ⟨S, smeets (con t), rest, l, _, _, _, rfl, knA s19, dfA s19, dRe ((s57.trans s8).trans s9), dp_same (off_same (s8.trans s9)) _ _ d7, lmem, (mem_rise t).sublist (lsub.trans restS), fun n hn => lsub.subset hn, pwc.1, pwc.2, fun H10 s10 => ⟨_, rfl, ifF rfl (s_next ⟨_, _, _, _, _, _, _, rfl, s19.trans s10⟩)⟩⟩))))))⟩⟩)))))
  · rintro σ' H' ⟨_, _, _, _, _, _, _, rfl, s2⟩
    exact nx_of (s_ret (t_c (q H' (s1.trans s2))))
end
end K31

set_option maxRecDepth 100000
set_option maxHeartbeats 4000000
namespace K31
open PySem PySem.Spec PyProof.Rows L2 Kh
/-! sets by their sizes -/
def Su (n : Nat) (f : Nat → Nat) : Nat := ((List.range n).map f).sum
theorem Su_zero (f : Nat → Nat) : Su 0 f = 0 := rfl
theorem Su_succ (n : Nat) (f : Nat → Nat) : Su (n + 1) f = Su n f + f n := by
  unfold Su; rw [List.range_succ, List.map_append, List.sum_append]; simp
theorem Su_congr {n : Nat} {f g : Nat → Nat} (h : ∀ i, i < n → f i = g i) : Su n f = Su n g := by
  unfold Su; congr 1; exact List.map_congr_left fun i hi => h i (List.mem_range.mp hi)
theorem Su_add : ∀ (n : Nat) (f g : Nat → Nat), Su n (fun i => f i + g i) = Su n f + Su n g
  | 0, _, _ => rfl
  | n + 1, f, g => by rw [Su_succ, Su_succ, Su_succ, Su_add n f g]; omega
theorem Su_none : ∀ (n : Nat), Su n (fun _ => 0) = 0
  | 0 => rfl
  | n + 1 => by rw [Su_succ, Su_none n]
theorem Su_one : ∀ (n c : Nat) (h : Nat → Nat), Su n (fun i => if i = c then h i else 0) = if c < n then h c else 0
  | 0, c, h => rfl
  | n + 1, c, h => by
    rw [Su_succ, Su_one n c h]
    by_cases e : n = c
    · subst e; rw [if_pos rfl, if_neg (Nat.lt_irrefl n), if_pos (Nat.lt_succ_self n)]; omega
    · rw [if_neg e]
      by_cases q : c < n
      · rw [if_pos q, if_pos (by omega)]; rfl
      · rw [if_neg q, if_neg (by omega)]
def cL (L : List (List Nat)) (j : Nat) : Nat := (L.filter fun m => decide (m.length = j)).length
theorem cL_nil (j : Nat) : cL [] j = 0 := rfl
theorem cL_cons (m : List Nat) (L : List (List Nat)) (j : Nat) : cL (m :: L) j = (if m.length = j then 1 else 0) + cL L j := by
  unfold cL; rw [List.filter_cons]
  by_cases h : m.length = j
  · rw [if_pos (decide_eq_true h), if_pos h, List.length_cons]; omega
  · rw [if_neg (by rw [decide_eq_false h]; exact Bool.false_ne_true), if_neg h]; omega
theorem cL_app (L M : List (List Nat)) (j : Nat) : cL (L ++ M) j = cL L j + cL M j := by
  unfold cL; rw [List.filter_append, List.length_append]
theorem cL_perm {L M : List (List Nat)} (h : L.Perm M) (j : Nat) : cL L j = cL M j := (h.filter _).length_eq
def sz (n : Nat) (L : List (List Nat)) : List Nat := (List.range (n + 1)).map (cL L)
theorem sz_len (n : Nat) (L : List (List Nat)) : (sz n L).length = n + 1 := by unfold sz; simp
theorem getD_map (n : Nat) (f : Nat → Nat) (x : Nat) : ((List.range n).map f).getD x 0 = if x < n then f x else 0 := by
  rw [List.getD_eq_getElem?_getD, List.getElem?_map]
  by_cases h : x < n
  · rw [List.getElem?_range h, if_pos h]; rfl
  · rw [List.getElem?_eq_none (by simp; omega), if_neg h]; rfl
theorem sz_get (n : Nat) (L : List (List Nat)) (x : Nat) (h : x < n + 1) : (sz n L).getD x 0 = cL L x := by
  unfold sz; rw [getD_map, if_pos h]
def pconv (one other : List Nat) (j : Nat) : Nat := Su one.length fun x => Su other.length fun y => if x + y = j then one.getD x 0 * other.getD y 0 else 0
def cP (X Y : List (List Nat)) (j : Nat) : Nat := (Y.map fun b => (X.filter fun a => decide (a.length + b.length = j)).length).sum
theorem sm_cL {n c j : Nat} : ∀ {X : List (List Nat)}, (∀ a ∈ X, a.length ≤ n) → Su (n + 1) (fun x => if x + c = j then cL X x else 0) = (X.filter fun a => decide (a.length + c = j)).length
  | [], _ => by
    have : Su (n + 1) (fun x => if x + c = j then cL [] x else 0) = Su (n + 1) (fun _ => 0) := Su_congr fun i _ => by rw [cL_nil]; split <;> rfl
    rw [this, Su_none]; rfl
  | a :: X, h => by
    have ih := sm_cL (n := n) (c := c) (j := j) (X := X) fun b hb => h b (List.mem_cons_of_mem _ hb)
    have ha := h a List.mem_cons_self
    have e : Su (n + 1) (fun x => if x + c = j then cL (a :: X) x else 0) = Su (n + 1) (fun x => (if x = a.length then (if x + c = j then 1 else 0) else 0) + (if x + c = j then cL X x else 0)) := Su_congr fun x _ => by
      rw [cL_cons]
      by_cases q : x + c = j
      · rw [if_pos q, if_pos q, if_pos q]
        by_cases r : a.length = x
        · rw [if_pos r, if_pos r.symm]
        · rw [if_neg r, if_neg fun z => r z.symm]
      · rw [if_neg q, if_neg q, if_neg q]; split <;> rfl
    rw [e, Su_add, ih, Su_one, if_pos (by omega), List.filter_cons]
    by_cases q : a.length + c = j
    · rw [if_pos q, if_pos (decide_eq_true q), List.length_cons]; omega
    · rw [if_neg q, if_neg (by rw [decide_eq_false q]; exact Bool.false_ne_true)]; omega
theorem conv_sz {n n' j : Nat} {X : List (List Nat)} (hX : ∀ a ∈ X, a.length ≤ n) : ∀ {Y : List (List Nat)}, (∀ b ∈ Y, b.length ≤ n') → pconv (sz n X) (sz n' Y) j = cP X Y j := by
  intro Y hY
  have base : pconv (sz n X) (sz n' Y) j = Su (n + 1) fun x => Su (n' + 1) fun y => if x + y = j then cL X x * cL Y y else 0 := by
    unfold pconv
    rw [sz_len, sz_len]
    exact Su_congr fun x hx => Su_congr fun y hy => by rw [sz_get n X x hx, sz_get n' Y y hy]
  rw [base]
  clear base
  induction Y with
  | nil =>
    have : Su (n + 1) (fun x => Su (n' + 1) fun y => if x + y = j then cL X x * cL [] y else 0) = Su (n + 1) (fun _ => 0) := Su_congr fun x _ => by
      rw [show Su (n' + 1) (fun y => if x + y = j then cL X x * cL [] y else 0) = Su (n' + 1) (fun _ => 0) from Su_congr fun y _ => by rw [cL_nil, Nat.mul_zero]; split <;> rfl, Su_none]
    rw [this, Su_none]; rfl
  | cons b Y ih =>
    have ih := ih fun c hc => hY c (List.mem_cons_of_mem _ hc)
    have hb := hY b List.mem_cons_self
    have e : Su (n + 1) (fun x => Su (n' + 1) fun y => if x + y = j then cL X x * cL (b :: Y) y else 0) = Su (n + 1) (fun x => (if x + b.length = j then cL X x else 0) + Su (n' + 1) fun y => if x + y = j then cL X x * cL Y y else 0) := Su_congr fun x _ => by
      have e2 : Su (n' + 1) (fun y => if x + y = j then cL X x * cL (b :: Y) y else 0) = Su (n' + 1) (fun y => (if y = b.length then (if x + y = j then cL X x else 0) else 0) + (if x + y = j then cL X x * cL Y y else 0)) := Su_congr fun y _ => by
        rw [cL_cons]
        by_cases q : x + y = j
        · rw [if_pos q, if_pos q, if_pos q, Nat.mul_add]
          by_cases r : b.length = y
          · rw [if_pos r, if_pos r.symm, Nat.mul_one]
          · rw [if_neg r, if_neg fun z => r z.symm, Nat.mul_zero]
        · rw [if_neg q, if_neg q, if_neg q]; split <;> rfl
      rw [e2, Su_add, Su_one, if_pos (by omega)]
    rw [e, Su_add, ih, sm_cL hX]
    unfold cP
    rw [List.map_cons, List.sum_cons]
/-- all lists of two lots -/
theorem lists_app (A B : List Nat) : lists (A ++ B) = (lists B).flatMap fun b => (lists A).map (· ++ b) := by
  refine snoc_ind (P := fun B => lists (A ++ B) = (lists B).flatMap fun b => (lists A).map (· ++ b)) ?_ ?_ B
  · rw [List.append_nil, lists_nil]; simp
  · intro l x ih
    rw [← List.append_assoc, lists_snoc, ih, lists_snoc, List.flatMap_append]
    congr 1
    rw [List.map_flatMap, List.flatMap_map]
    congr 1; funext b
    rw [List.map_map]
    congr 1; funext a
    show (a ++ b) ++ [x] = a ++ (b ++ [x])
    rw [List.append_assoc]
theorem cL_flat (Y : List (List Nat)) (g : List Nat → List (List Nat)) (j : Nat) : cL (Y.flatMap g) j = (Y.map fun b => cL (g b) j).sum := by
  induction Y with
  | nil => rfl
  | cons b Y ih => rw [List.flatMap_cons, cL_app, ih, List.map_cons, List.sum_cons]
theorem sum_split {α : Type} (Y : List α) (p : α → Bool) (f : α → Nat) : (Y.map f).sum = ((Y.filter p).map f).sum + ((Y.filter fun y => !p y).map f).sum := by
  induction Y with
  | nil => rfl
  | cons y Y ih =>
    rw [List.map_cons, List.sum_cons, ih, List.filter_cons, List.filter_cons]
    cases p y <;> simp <;> omega
def Gq (ps : List Kh.T) (q : Nat) : List (List Nat) := (lists (ps.flatMap lv)).filter fun m => decide (cnt m ps = q)
def At (t : Kh.T) : List (List Nat) := (lists (lv t)).filter fun m => st m t
def Bt (t : Kh.T) : List (List Nat) := (lists (lv t)).filter fun m => !st m t
theorem cnt_app (x : List Nat) (ps qs : List Kh.T) : cnt x (ps ++ qs) = cnt x ps + cnt x qs := by
  unfold cnt; rw [List.filter_append, List.length_append]
theorem gq_step {ps : List Kh.T} {p : Kh.T} (nd : ((ps ++ [p]).flatMap lv).Nodup) (q j : Nat) : cL (Gq (ps ++ [p]) q) j = (if q = 0 then 0 else cP (Gq ps (q - 1)) (At p) j) + cP (Gq ps q) (Bt p) j := by
  have fm : (ps ++ [p]).flatMap lv = ps.flatMap lv ++ lv p := by rw [List.flatMap_append]; simp
  rw [fm] at nd
  obtain ⟨n1, n2, n3⟩ := List.nodup_append.mp nd
  have cab : ∀ a ∈ lists (ps.flatMap lv), ∀ b ∈ lists (lv p), cnt (a ++ b) (ps ++ [p]) = cnt a ps + (if st b p = true then 1 else 0) := fun a ha b hb => by
    have sa := ((lists_mem _ a).mp ha).subset
    have sb := ((lists_mem _ b).mp hb).subset
    rw [cnt_app, cnt_cons]
    have e1 : cnt (a ++ b) ps = cnt a ps := cnt_same fun n hn => by
      rw [List.mem_append]; exact ⟨fun h => h.elim id fun h => (n3 n hn n (sb h) rfl).elim, .inl⟩
    have e2 : st (a ++ b) p = st b p := st_same fun n hn => by
      rw [List.mem_append]; exact ⟨fun h => h.elim (fun h => (n3 n (sa h) n hn rfl).elim) id, .inr⟩
    rw [e1, e2]; rfl
  unfold Gq
  rw [fm, lists_app, List.filter_flatMap, cL_flat]
  rw [sum_split (lists (lv p)) fun b => st b p]
  have inner : ∀ b, cL (((lists (ps.flatMap lv)).map (· ++ b)).filter fun m => decide (cnt m (ps ++ [p]) = q)) j = ((lists (ps.flatMap lv)).filter fun a => decide (cnt (a ++ b) (ps ++ [p]) = q) && decide (a.length + b.length = j)).length := fun b => by
    unfold cL
    rw [List.filter_filter, List.filter_map, List.length_map]
    congr 1
    refine List.filter_congr fun a _ => ?_
    show (decide ((a ++ b).length = j) && decide (cnt (a ++ b) (ps ++ [p]) = q)) = _
    rw [List.length_append, Bool.and_comm]
  congr 1
  · by_cases hq : q = 0
    · rw [if_pos hq]
      have : ∀ b ∈ (lists (lv p)).filter (fun b => st b p), cL (((lists (ps.flatMap lv)).map (· ++ b)).filter fun m => decide (cnt m (ps ++ [p]) = q)) j = 0 := fun b hb => by
        obtain ⟨hb1, hb2⟩ := List.mem_filter.mp hb
        rw [inner b, List.length_eq_zero_iff, List.filter_eq_nil_iff]
        intro a ha
        rw [cab a ha b hb1, if_pos hb2, decide_eq_false (by omega)]; exact Bool.false_ne_true
      rw [List.map_congr_left this]
      induction (lists (lv p)).filter (fun b => st b p) with
      | nil => rfl
      | cons x l ih => rw [List.map_cons, List.sum_cons, ih]
    · rw [if_neg hq]
      unfold cP At
      congr 1
      refine List.map_congr_left fun b hb => ?_
      obtain ⟨hb1, hb2⟩ := List.mem_filter.mp hb
      rw [inner b]
      rw [List.filter_filter]
      congr 1
      refine List.filter_congr fun a ha => ?_
      rw [cab a ha b hb1, if_pos hb2, Bool.and_comm]
      congr 1
      exact decide_eq_decide.mpr (by omega)
  · unfold cP Bt
    congr 1
    refine List.map_congr_left fun b hb => ?_
    obtain ⟨hb1, hb2⟩ := List.mem_filter.mp hb
    rw [inner b]
    rw [List.filter_filter]
    congr 1
    refine List.filter_congr fun a ha => ?_
    have : ¬ st b p = true := by intro z; rw [z] at hb2; cases hb2
    rw [cab a ha b hb1, if_neg this, Bool.and_comm, Nat.add_zero]
theorem gq_over (ps : List Kh.T) : Gq ps (ps.length + 1) = [] := List.filter_eq_nil_iff.mpr fun m _ => by
  have : cnt m ps ≤ ps.length := List.length_filter_le _ _
  rw [decide_eq_false (by omega)]; exact Bool.false_ne_true
theorem gq_small {ps : List Kh.T} {q : Nat} : ∀ m ∈ Gq ps q, m.length ≤ (ps.flatMap lv).length := fun m hm => ((lists_mem _ m).mp (List.mem_filter.mp hm).1).length_le
theorem at_small {t : Kh.T} : ∀ m ∈ At t, m.length ≤ (lv t).length := fun m hm => ((lists_mem _ m).mp (List.mem_filter.mp hm).1).length_le
theorem bt_small {t : Kh.T} : ∀ m ∈ Bt t, m.length ≤ (lv t).length := fun m hm => ((lists_mem _ m).mp (List.mem_filter.mp hm).1).length_le
/-- by how many parts stand -/
theorem cL_by (X : List (List Nat)) (f : List Nat → Nat) (qs : List Nat) (nd : qs.Nodup) (j : Nat) : (qs.map fun q => cL (X.filter fun m => decide (f m = q)) j).sum = cL (X.filter fun m => decide (f m ∈ qs)) j := by
  induction qs with
  | nil => 
    have : X.filter (fun m => decide (f m ∈ ([] : List Nat))) = [] := List.filter_eq_nil_iff.mpr fun m _ => by simp
    rw [this]; rfl
  | cons q qs ih =>
    obtain ⟨h1, h2⟩ := List.nodup_cons.mp nd
    rw [List.map_cons, List.sum_cons, ih h2]
    clear ih nd
    induction X with
    | nil => rfl
    | cons m X ihX =>
      rw [List.filter_cons, List.filter_cons, List.filter_cons]
      by_cases e : f m = q
      · have n1 : ¬ f m ∈ qs := by rw [e]; exact h1
        rw [if_pos (decide_eq_true e), if_neg (by rw [decide_eq_false n1]; exact Bool.false_ne_true), if_pos (decide_eq_true (by rw [e]; exact List.mem_cons_self)), cL_cons, cL_cons, ← ihX]; omega
      · by_cases e2 : f m ∈ qs
        · rw [if_neg (by rw [decide_eq_false e]; exact Bool.false_ne_true), if_pos (decide_eq_true e2), if_pos (decide_eq_true (List.mem_cons_of_mem _ e2)), cL_cons, cL_cons, ← ihX]; omega
        · rw [if_neg (by rw [decide_eq_false e]; exact Bool.false_ne_true), if_neg (by rw [decide_eq_false e2]; exact Bool.false_ne_true), if_neg (by rw [decide_eq_false fun z => (List.mem_cons.mp z).elim e e2]; exact Bool.false_ne_true), ihX]
/-- another order of the houses -/
theorem lists_phi {l l' : List Nat} (nd : l.Nodup) (nd' : l'.Nodup) (h : ∀ n, n ∈ l ↔ n ∈ l') : ((lists l).map fun m => l'.filter fun n => decide (n ∈ m)).Perm (lists l') := by
  refine (List.perm_ext_iff_of_nodup ?_ (lists_nodup l' nd')).mpr fun m => ?_
  · refine List.pairwise_map.mpr ((lists_nodup l nd).imp_of_mem fun {x y} hx hy ne e => ne ?_)
    have sx := (lists_mem l x).mp hx
    have sy := (lists_mem l y).mp hy
    have mem : ∀ n, n ∈ x ↔ n ∈ y := fun n => by
      constructor
      · intro hn
        have : n ∈ l'.filter fun n => decide (n ∈ x) := List.mem_filter.mpr ⟨(h n).mp (sx.subset hn), decide_eq_true hn⟩
        rw [e] at this
        exact of_decide_eq_true (List.mem_filter.mp this).2
      · intro hn
        have : n ∈ l'.filter fun n => decide (n ∈ y) := List.mem_filter.mpr ⟨(h n).mp (sy.subset hn), decide_eq_true hn⟩
        rw [← e] at this
        exact of_decide_eq_true (List.mem_filter.mp this).2
    have key : ∀ z, z.Sublist l → z = l.filter fun n => decide (n ∈ z) := by
      clear e mem hx hy ne sx sy h nd'
      induction l with
      | nil => intro z hz; rw [List.sublist_nil.mp hz]; rfl
      | cons a l ih =>
        obtain ⟨n1, n2⟩ := List.nodup_cons.mp nd
        intro z hz
        cases hz with
        | cons _ hz =>
          have : a ∉ z := fun q => n1 (hz.subset q)
          rw [List.filter_cons, if_neg (by rw [decide_eq_false this]; exact Bool.false_ne_true)]
          exact ih n2 z hz
        | cons_cons _ hz =>
          rename_i z
          rw [List.filter_cons, if_pos (decide_eq_true List.mem_cons_self)]
          congr 1
          refine (ih n2 z hz).trans (List.filter_congr fun n hn => decide_eq_decide.mpr ⟨List.mem_cons_of_mem _, fun q => (List.mem_cons.mp q).elim (fun e => (n1 (by rw [← e]; exact hn)).elim) id⟩)
    rw [key x sx, key y sy]
    exact List.filter_congr fun n _ => decide_eq_decide.mpr (mem n)
  · rw [List.mem_map, lists_mem]
    constructor
    · rintro ⟨x, _, rfl⟩; exact List.filter_sublist
    · intro hm
      refine ⟨l.filter fun n => decide (n ∈ m), (lists_mem _ _).mpr List.filter_sublist, ?_⟩
      have key : ∀ (l' : List Nat), l'.Nodup → ∀ z, z.Sublist l' → l'.filter (fun n => decide (n ∈ z)) = z := by
        intro l'
        induction l' with
        | nil => intro _ z hz; rw [List.sublist_nil.mp hz]; rfl
        | cons a l ih =>
          intro nd z hz
          obtain ⟨n1, n2⟩ := List.nodup_cons.mp nd
          cases hz with
          | cons _ hz =>
            have : a ∉ z := fun q => n1 (hz.subset q)
            rw [List.filter_cons, if_neg (by rw [decide_eq_false this]; exact Bool.false_ne_true)]
            exact ih n2 z hz
          | cons_cons _ hz =>
            rename_i z
            rw [List.filter_cons, if_pos (decide_eq_true List.mem_cons_self)]
            congr 1
            exact (List.filter_congr fun n hn => decide_eq_decide.mpr ⟨fun q => (List.mem_cons.mp q).elim (fun e => (n1 (by rw [← e]; exact hn)).elim) id, List.mem_cons_of_mem _⟩).trans (ih n2 z hz)
      refine Eq.trans (List.filter_congr fun n hn => decide_eq_decide.mpr ?_) (key l' nd' m hm)
      rw [List.mem_filter, decide_eq_true_iff]
      exact ⟨fun q => q.2, fun q => ⟨(h n).mpr hn, q⟩⟩
end K31

set_option maxRecDepth 100000
set_option maxHeartbeats 1000000
/-! zip of any number of lists, its tuples kept by a name -/
namespace Kh
open PySem PySem.Spec PyProof.Rows L2
section
variable {prog : Program} {w : World} {A : Around} {E : Value → Shared → Prop} {s : Shared}
theorem wpAny_alive {M : Model} {a : Addr} {Q : Option Obj → Shared → Prop} (h : Q (s.heap.get? a) s) : wpAny M A (loadIfAlive a) Q E s := fun Γ p _ => by
  show Sem.wp M Γ (.loadIfAlive a .pure) _ _ p s
  rw [Sem.wp_loadIfAlive]; exact h
theorem wp_forIn {M : Model} {α β : Type} {f : α → β → Sem (ForInStep β)} {l : List α} (b : Nat → β) (P : Nat → Shared → Prop) {Q : β → Shared → Prop} {b0 : β} (hb : b0 = b 0) (h0 : P 0 s)
    (turn : ∀ i x s', l[i]? = some x → P i s' → wpAny M A (f x (b i)) (fun r s2 => r = .yield (b (i + 1)) ∧ P (i + 1) s2) E s') (fin : ∀ s', P l.length s' → Q (b l.length) s') : wpAny M A (forIn l b0 f) Q E s := by
  subst hb
  refine wpAny_forIn_list f (fun L c s' => ∃ i, i ≤ l.length ∧ L = l.drop i ∧ c = b i ∧ P i s') Q (fun x rest c s' h => ?_) (fun c s' h => ?_) l (b 0) ⟨0, Nat.zero_le _, rfl, rfl, h0⟩
  · obtain ⟨i, hi, e, rfl, hp⟩ := h
    have hl : i < l.length := by
      refine Nat.lt_of_le_of_ne hi fun z => ?_
      rw [z, List.drop_length] at e; cases e
    rw [List.drop_eq_getElem_cons hl] at e
    obtain ⟨rfl, rfl⟩ := List.cons.inj e
    refine wpAny_mono (turn i _ s' (List.getElem?_eq_getElem hl) hp) (fun r s2 hr => ?_) fun _ _ z => z
    obtain ⟨rfl, hp'⟩ := hr
    exact ⟨i + 1, hl, rfl, rfl, hp'⟩
  · obtain ⟨i, hi, e, rfl, hp⟩ := h
    have : i = l.length := by
      have := congrArg List.length e
      rw [List.length_nil, List.length_drop] at this; omega
    subst this; exact fin s' hp
abbrev ZipObj (f : Value) (g : Bool) (TI TO : Addr) : Obj := { cls := .type "zip", dict := none, data := .fields #[f, .bool g, .bool false, .ref TI, .ref TO], slots := #[] }
structure ZN (h : Heap) (z TI TO : Addr) (its ls : List Addr) (pos : Nat) : Prop where
  zip : ∃ f g, h.get? z = some (ZipObj f g TI TO) ∧ (f = .none ∨ ∃ T : Addr, f = rawInt T)
  ti : h.get? TI = some { cls := .type "tuple", data := .seq (its.map Value.ref).toArray }
  to : ∃ ys : Array Value, h.get? TO = some { cls := .type "tuple", data := .seq ys } ∧ ys.size = its.length
  it : ∀ (k : Nat) i l, its[k]? = some i → ls[k]? = some l → h.IsListIter i l pos
structure Ap (z TI TO : Addr) (its ls : List Addr) : Prop where
  len : ls.length = its.length
  zT : TI ≠ z
  zO : TO ≠ z
  tO : TI ≠ TO
  zi : ∀ i ∈ its, i ≠ z
  ti : ∀ i ∈ its, i ≠ TI
  oi : ∀ i ∈ its, i ≠ TO
  nd : its.Nodup
  lz : ∀ l ∈ ls, l ≠ z
  lo : ∀ l ∈ ls, l ≠ TO
  li : ∀ l ∈ ls, l ∉ its
theorem owned_free {z TI TO : Addr} {f : Value} {g : Bool} {Q : Bool → Shared → Prop} (hz : s.heap.get? z = some (ZipObj f g TI TO)) (hf : f = .none ∨ ∃ T : Addr, f = rawInt T) (yes : Q true s)
    (no : ∀ h', h'.get? z = some (ZipObj f true TI TO) → Heap.SameBut z s.heap h' → Q false { s with heap := h' }) : wpAny (model prog w) A (Builtin.SmallTypes.ownedTupleIsFree (.ref z)) Q E s := by
  unfold Builtin.SmallTypes.ownedTupleIsFree
  refine wpAny_bind (wpAny_field hz rfl (x := f) rfl ?_)
  rcases hf with rfl | ⟨T0, rfl⟩
  · exact wpAny_pure yes
  · show wpAny _ _ (loadIfAlive _ >>= _) _ _ _
    refine wpAny_bind (wpAny_alive ?_)
    cases hT : s.heap.get? ((T0 : Int)).toNat with
    | none => exact wpAny_pure yes
    | some o =>
      show wpAny _ _ (field (.ref z) 1 >>= _) _ _ _
      refine wpAny_bind (wpAny_field hz rfl (x := .bool g) rfl ?_)
      cases g with
      | true => exact wpAny_pure (no _ hz (Heap.SameBut.refl _ _))
      | false =>
        show wpAny _ _ (setField (.ref z) 1 (.bool true) >>= _) _ _ _
        refine wpAny_bind (wpAny_setField_rec hz (by simp) fun h₁ hz₁ hs₁ => wpAny_pure (no h₁ hz₁ hs₁))
theorem zipN_next {z TI TO : Addr} {its ls : List Addr} {pos : Nat} {vs : List Value} {Q : Value → Shared → Prop} (D : Ap z TI TO its ls) (st : ZN s.heap z TI TO its ls pos) (ne : its ≠ []) (sz : its.length ≤ 1000)
    (lv : vs.length = its.length) (hl : ∀ (k : Nat) l v, ls[k]? = some l → vs[k]? = some v → ∃ xs, s.heap.IsList l xs ∧ xs[pos]? = some v)
    (hQ : ∀ h', ZN h' z TI TO its ls (pos + 1) → h'.get? s.heap.objs.size = some { cls := .type "tuple", data := .seq vs.toArray } → h'.objs.size = s.heap.objs.size + 1 → (∀ c o, c ≠ z → c ≠ TO → c ∉ its → s.heap.get? c = some o → h'.get? c = some o) → Q (.ref s.heap.objs.size) { s with heap := h' }) :
    wpAny (model prog w) A (Builtin.«zip.__next__» ⟨[.ref z], []⟩) (fun fin s' => ∃ v, fin = .done (.ret v) ∧ Q v s') E s := by
  obtain ⟨⟨f, g, hz, hf⟩, hTI, ⟨ys, hTO, lys⟩, hit⟩ := st
  have emp : (its.map Value.ref).toArray.isEmpty = false := by
    cases its with
    | nil => exact (ne rfl).elim
    | cons a b => rfl
  show wpAny _ _ (field (.ref z) 2 >>= _) _ _ _
  refine wpAny_bind (wpAny_field hz rfl (x := .bool false) rfl ?_)
  show wpAny _ _ (field (.ref z) 3 >>= _) _ _ _
  refine wpAny_bind (wpAny_field hz rfl (x := .ref TI) rfl ?_)
  refine wpAny_bind (wpAny_seqItems hTI rfl ?_)
  simp only [emp, Bool.false_eq_true, if_false]
  refine wpAny_bind (owned_free hz hf ?_ fun h1 hz1 hs1 => ?_)
  · simp only [if_true]
    refine wpAny_bind (wpAny_rule ?_)
    refine wpAny_bind (wpAny_field hz rfl (x := .ref TO) rfl ?_)
    refine wpAny_bind (wpAny_setField_rec hz (by simp) fun h₁ hz₁ hs₁ => ?_)
    replace hz₁ : h₁.get? z = some (ZipObj .ellipsis g TI TO) := hz₁
    refine wpAny_bind (wp_forIn (l := (its.map Value.ref).toArray.toList.zipIdx) (fun _ => ⟨none, PUnit.unit⟩) (fun i s' => ∃ h', s' = { s with heap := h' } ∧ h'.get? z = some (ZipObj .ellipsis g TI TO) ∧ (∃ ys' : Array Value, h'.get? TO = some { cls := .type "tuple", data := .seq ys' } ∧ ys'.size = its.length ∧ ∀ j, j < i → ys'[j]? = vs[j]?) ∧
        (∀ (k : Nat) it l, its[k]? = some it → ls[k]? = some l → h'.IsListIter it l (if k < i then pos + 1 else pos)) ∧ h'.objs.size = s.heap.objs.size ∧ (∀ c o, c ≠ z → c ≠ TO → c ∉ its → s.heap.get? c = some o → h'.get? c = some o)) rfl ?_ ?_ ?_)
    · refine ⟨h₁, rfl, hz₁, ⟨ys, (hs₁.2 _ D.zO).trans hTO, lys, fun j hj => absurd hj (Nat.not_lt_zero j)⟩, fun k it l h1 h2 => ?_, hs₁.1, fun c o c1 _ _ e => (hs₁.2 c c1).trans e⟩
      rw [if_neg (Nat.not_lt_zero k)]
      exact (hit k it l h1 h2).at fun o e => (hs₁.2 it (D.zi it (List.mem_of_getElem? h1))).trans e
    · rintro i x s' hx ⟨h', rfl, hz', ⟨ys', hTO', ly', py'⟩, it', sz', kp'⟩
      rw [List.getElem?_zipIdx, List.toList_toArray, List.getElem?_map] at hx
      cases hi : its[i]? with
      | none => rw [hi] at hx; cases hx
      | some it =>
        rw [hi] at hx
        obtain rfl := (Option.some.inj hx).symm
        have il : i < its.length := (List.getElem?_eq_some_iff.mp hi).1
        obtain ⟨l, hli⟩ : ∃ l, ls[i]? = some l := ⟨_, List.getElem?_eq_getElem (by rw [D.len]; exact il)⟩
        obtain ⟨v, hvi⟩ : ∃ v, vs[i]? = some v := ⟨_, List.getElem?_eq_getElem (by rw [lv]; exact il)⟩
        obtain ⟨xs, hxs, hxp⟩ := hl i l v hli hvi
        have im := List.mem_of_getElem? hi
        have lm := List.mem_of_getElem? hli
        have hit' := it' i it l hi hli
        rw [if_neg (Nat.lt_irrefl i)] at hit'
        have hl' : h'.IsList l xs := hxs.at fun o e => kp' l o (D.lz l lm) (D.lo l lm) (D.li l lm) e
        refine wpAny_bind (wpAny_onRaise ?_)
        show wpAny _ _ (Builtin.SmallTypes.nextOf (.ref it) >>= _) _ _ _
        refine wpAny_bind (wpAny_nextOf_list_item hit' hl' hxp fun h₂ hit₂ hs₂ => wpAny_pure ?_)
        have hTO₂ : h₂.get? TO = some { cls := .type "tuple", data := .seq ys' } := (hs₂.2 _ (fun z => D.oi it im z.symm)).trans hTO'
        refine wpAny_bind (wpAny_seqItems hTO₂ rfl ?_)
        refine wpAny_bind (wpAny_updateSeq hTO₂ rfl ?_ (Nat.le_trans (by omega) (show 1000 ≤ sizeLine by decide)) (Nat.le_trans (by rw [Array.size_setIfInBounds]; omega) (show 1000 ≤ sizeLine + 1 by decide)))
        have up : (h₂.update TO (Obj.mapSeq fun x => x.setIfInBounds (0 + i) v)).get? TO = some { cls := .type "tuple", data := .seq (ys'.setIfInBounds (0 + i) v) } := by
          rw [Heap.get?_update_self _ hTO₂ rfl]; simp [Obj.mapSeq]
        have ub : Heap.SameBut TO h₂ (h₂.update TO (Obj.mapSeq fun x => x.setIfInBounds (0 + i) v)) := Heap.SameBut.update ..
        generalize h₂.update TO (Obj.mapSeq fun x => x.setIfInBounds (0 + i) v) = h₃ at up ub
        refine wpAny_bind (wpAny_letGo (wpAny_pure ⟨rfl, h₃, rfl, ?_, ⟨_, up, ?_, ?_⟩, ?_, ?_, ?_⟩))
        · exact (ub.2 _ D.zO.symm).trans ((hs₂.2 _ (D.zi it im).symm).trans hz')
        · rw [Array.size_setIfInBounds, ly']
        · intro j hj
          rw [Nat.zero_add]
          by_cases e : j = i
          · subst e
            rw [Array.getElem?_setIfInBounds_self_of_lt (by rw [ly']; exact il), hvi]
          · rw [Array.getElem?_setIfInBounds_ne (fun z => e z.symm)]
            exact py' j (by omega)
        · intro k it2 l2 hk hk2
          by_cases e : k = i
          · subst e
            rw [hi] at hk
            cases hk
            rw [hli] at hk2
            cases hk2
            rw [if_pos (Nat.lt_succ_self k)]
            exact hit₂.at fun o e => (ub.2 _ (D.oi it im)).trans e
          · have h1 := it' k it2 l2 hk hk2
            have ne2 : it2 ≠ it := fun z => by
              subst z
              obtain ⟨p1, q1⟩ := List.getElem?_eq_some_iff.mp hk
              obtain ⟨p2, q2⟩ := List.getElem?_eq_some_iff.mp hi
              exact e ((List.getElem_inj (h₀ := p1) (h₁ := p2) D.nd).mp (q1.trans q2.symm))
            have e3 : (if k < i + 1 then pos + 1 else pos) = (if k < i then pos + 1 else pos) := by
              by_cases q : k < i
              · rw [if_pos q, if_pos (by omega)]
              · rw [if_neg q, if_neg (by omega)]
            rw [e3]
            exact h1.at fun o x => (ub.2 _ (D.oi it2 (List.mem_of_getElem? hk))).trans ((hs₂.2 _ ne2).trans x)
        · rw [ub.1, hs₂.1, sz']
        · intro c o c1 c2 c3 x
          exact (ub.2 _ c2).trans ((hs₂.2 _ (fun z => c3 (by rw [z]; exact im))).trans (kp' c o c1 c2 c3 x))
    · rintro s' ⟨h', rfl, hz', ⟨ys', hTO', ly', py'⟩, it', sz', kp'⟩
      have ll : (its.map Value.ref).toArray.toList.zipIdx.length = its.length := by simp
      rw [ll] at py' it'
      have ey : ys' = vs.toArray := by
        have : ys'.toList = vs := List.ext_getElem? fun j => by
          rw [Array.getElem?_toList]
          by_cases hj : j < its.length
          · exact py' j hj
          · rw [Array.getElem?_eq_none (by omega), List.getElem?_eq_none (by omega)]
        rw [← this]
      subst ey
      refine wpAny_bind (wpAny_seqItems hTO' rfl ?_)
      refine wpAny_bind (wpAny_newTuple ?_)
      show wpAny _ _ (Builtin.SmallTypes.ownedTupleHandOut (.ref z) (.ref h'.objs.size) >>= _) _ _ _
      refine wpAny_bind ?_
      unfold Builtin.SmallTypes.ownedTupleHandOut
      have hz6 : (h'.push { cls := .type "tuple", data := .seq vs.toArray }).get? z = some (ZipObj .ellipsis g TI TO) := Heap.get?_push_of_some _ hz'
      refine wpAny_bind (wpAny_setField_rec hz6 (by simp) fun h7 hz7 hs7 => ?_)
      replace hz7 : h7.get? z = some (ZipObj (rawInt h'.objs.size) g TI TO) := hz7
      refine wpAny_setField_rec hz7 (by simp) fun h8 hz8 hs8 => ?_
      replace hz8 : h8.get? z = some (ZipObj (rawInt h'.objs.size) false TI TO) := hz8
      have up : ∀ c o, c ≠ z → h'.get? c = some o → h8.get? c = some o := fun c o c1 e => (hs8.2 _ c1).trans ((hs7.2 _ c1).trans (Heap.get?_push_of_some _ e))
      have zl : z < h'.objs.size := Heap.lt_size hz'
      have hT : h8.get? h'.objs.size = some { cls := .type "tuple", data := .seq vs.toArray } := (hs8.2 _ (Nat.ne_of_gt zl)).trans ((hs7.2 _ (Nat.ne_of_gt zl)).trans (Heap.get?_push_size _ rfl))
      have sz8 : h8.objs.size = h'.objs.size + 1 := by rw [hs8.1, hs7.1, Heap.size_push]
      rw [sz'] at hz8 hT sz8
      refine wpAny_pure ⟨_, rfl, ?_⟩
      show Q (.ref h'.objs.size) _
      rw [sz']
      refine hQ h8 ⟨⟨_, false, hz8, .inr ⟨_, rfl⟩⟩, up _ _ D.zT (kp' _ _ D.zT D.tO (fun m => D.ti _ m rfl) hTI), ⟨_, up _ _ D.zO hTO', by simpa using lv⟩, fun k it l h1 h2 => ?_⟩ hT sz8 fun c o c1 c2 c3 e => up c o c1 (kp' c o c1 c2 c3 e)
      have h3 := it' k it l h1 h2
      rw [if_pos (List.getElem?_eq_some_iff.mp h1).1] at h3
      exact h3.at fun o e => up it o (D.zi it (List.mem_of_getElem? h1)) e
  · simp only [Bool.false_eq_true, if_false]
    rw [← Array.forIn_toList]
    refine wpAny_bind (wp_forIn (fun i => ⟨none, (vs.take i).toArray⟩) (fun i s' => ∃ h', s' = { s with heap := h' } ∧ h'.get? z = some (ZipObj f true TI TO) ∧
        (∀ (k : Nat) it l, its[k]? = some it → ls[k]? = some l → h'.IsListIter it l (if k < i then pos + 1 else pos)) ∧ h'.objs.size = s.heap.objs.size ∧ (∀ c o, c ≠ z → c ∉ its → s.heap.get? c = some o → h'.get? c = some o)) rfl ?_ ?_ ?_)
    · refine ⟨h1, rfl, hz1, fun k it l e1 e2 => ?_, hs1.1, fun c o c1 _ e => (hs1.2 c c1).trans e⟩
      rw [if_neg (Nat.not_lt_zero k)]
      exact (hit k it l e1 e2).at fun o e => (hs1.2 it (D.zi it (List.mem_of_getElem? e1))).trans e
    · rintro i x s' hx ⟨h', rfl, hz', it', sz', kp'⟩
      rw [List.toList_toArray, List.getElem?_map] at hx
      cases hi : its[i]? with
      | none => rw [hi] at hx; cases hx
      | some it =>
        rw [hi] at hx
        obtain rfl := (Option.some.inj hx).symm
        have il : i < its.length := (List.getElem?_eq_some_iff.mp hi).1
        obtain ⟨l, hli⟩ : ∃ l, ls[i]? = some l := ⟨_, List.getElem?_eq_getElem (by rw [D.len]; exact il)⟩
        obtain ⟨v, hvi⟩ : ∃ v, vs[i]? = some v := ⟨_, List.getElem?_eq_getElem (by rw [lv]; exact il)⟩
        obtain ⟨xs, hxs, hxp⟩ := hl i l v hli hvi
        have im := List.mem_of_getElem? hi
        have lm := List.mem_of_getElem? hli
        have hit' := it' i it l hi hli
        rw [if_neg (Nat.lt_irrefl i)] at hit'
        have hl' : h'.IsList l xs := hxs.at fun o e => kp' l o (D.lz l lm) (D.li l lm) e
        refine wpAny_bind (wpAny_holding ?_)
        show wpAny _ _ (Builtin.SmallTypes.nextOf (.ref it) >>= _) _ _ _
        refine wpAny_bind (wpAny_nextOf_list_item hit' hl' hxp fun h₂ hit₂ hs₂ => wpAny_pure ?_)
        refine wpAny_pure ⟨?_, h₂, rfl, (hs₂.2 _ (D.zi it im).symm).trans hz', fun k it2 l2 hk hk2 => ?_, by rw [hs₂.1, sz'], fun c o c1 c3 x => (hs₂.2 _ (fun z => c3 (by rw [z]; exact im))).trans (kp' c o c1 c3 x)⟩
        · rw [List.take_add_one, hvi]; simp
        · by_cases e : k = i
          · subst e
            rw [hi] at hk
            cases hk
            rw [hli] at hk2
            cases hk2
            rw [if_pos (Nat.lt_succ_self k)]
            exact hit₂
          · have h1 := it' k it2 l2 hk hk2
            have ne2 : it2 ≠ it := fun z => by
              subst z
              obtain ⟨p1, q1⟩ := List.getElem?_eq_some_iff.mp hk
              obtain ⟨p2, q2⟩ := List.getElem?_eq_some_iff.mp hi
              exact e ((List.getElem_inj (h₀ := p1) (h₁ := p2) D.nd).mp (q1.trans q2.symm))
            have e3 : (if k < i + 1 then pos + 1 else pos) = (if k < i then pos + 1 else pos) := by
              by_cases q : k < i
              · rw [if_pos q, if_pos (by omega)]
              · rw [if_neg q, if_neg (by omega)]
            rw [e3]
            exact h1.at fun o x => (hs₂.2 _ ne2).trans x
    · rintro s' ⟨h', rfl, hz', it', sz', kp'⟩
      have ll : (its.map Value.ref).toArray.toList.length = its.length := by simp
      rw [ll] at it' ⊢
      have ev : vs.take its.length = vs := List.take_of_length_le (by omega)
      rw [ev]
      refine wpAny_bind (wpAny_newTuple ?_)
      have up : ∀ c o, h'.get? c = some o → (h'.push { cls := .type "tuple", data := .seq vs.toArray }).get? c = some o := fun c o e => Heap.get?_push_of_some _ e
      have hT : (h'.push { cls := .type "tuple", data := .seq vs.toArray }).get? h'.objs.size = some { cls := .type "tuple", data := .seq vs.toArray } := Heap.get?_push_size _ rfl
      have sz8 : (h'.push { cls := .type "tuple", data := .seq vs.toArray }).objs.size = h'.objs.size + 1 := Heap.size_push ..
      refine wpAny_pure ⟨_, rfl, ?_⟩
      show Q (.ref h'.objs.size) { s with heap := h'.push { cls := .type "tuple", data := .seq vs.toArray } }
      generalize h'.push { cls := .type "tuple", data := .seq vs.toArray } = h8 at up hT sz8
      rw [sz'] at hT sz8 ⊢
      refine hQ h8 ⟨⟨_, true, up _ _ hz', hf⟩, up _ _ (kp' _ _ D.zT (fun m => D.ti _ m rfl) hTI), ⟨_, up _ _ (kp' _ _ D.zO (fun m => D.oi _ m rfl) hTO), lys⟩, fun k it l h1 h2 => ?_⟩ hT sz8 fun c o c1 c2 c3 e => up c o (kp' c o c1 c3 e)
      have h3 := it' k it l h1 h2
      rw [if_pos (List.getElem?_eq_some_iff.mp h1).1] at h3
      exact h3.at fun o e => up it o e
theorem zipN_end {z TI TO : Addr} {its ls : List Addr} {pos : Nat} {Q : Fin → Shared → Prop} (hh : A.handled = none) (D : Ap z TI TO its ls) (st : ZN s.heap z TI TO its ls pos) (ne : its ≠ [])
    (hl : ∀ l, ls[0]? = some l → ∃ xs, s.heap.IsList l xs ∧ xs[pos]? = none)
    (hE : ∀ h' e, (∀ c o, c ≠ z → c ≠ TO → c ∉ its → s.heap.get? c = some o → h'.get? c = some o) → (∃ o, h'.get? e = some o ∧ o.cls = .type "StopIteration") → E (.ref e) { s with heap := h' }) :
    wpAny (model prog w) A (Builtin.«zip.__next__» ⟨[.ref z], []⟩) Q E s := by
  obtain ⟨⟨f, g, hz, hf⟩, hTI, ⟨ys, hTO, lys⟩, hit⟩ := st
  obtain ⟨i0, rest, rfl⟩ : ∃ a b, its = a :: b := by
    cases its with
    | nil => exact (ne rfl).elim
    | cons a b => exact ⟨a, b, rfl⟩
  obtain ⟨l0, hl0⟩ : ∃ l, ls[0]? = some l := ⟨_, List.getElem?_eq_getElem (by rw [D.len]; exact Nat.succ_pos _)⟩
  obtain ⟨xs, hxs, hxp⟩ := hl l0 hl0
  have lm := List.mem_of_getElem? hl0
  have hit0 := hit 0 i0 l0 rfl hl0
  show wpAny _ _ (field (.ref z) 2 >>= _) _ _ _
  refine wpAny_bind (wpAny_field hz rfl (x := .bool false) rfl ?_)
  show wpAny _ _ (field (.ref z) 3 >>= _) _ _ _
  refine wpAny_bind (wpAny_field hz rfl (x := .ref TI) rfl ?_)
  refine wpAny_bind (wpAny_seqItems hTI rfl ?_)
  have emp : ((i0 :: rest).map Value.ref).toArray.isEmpty = false := rfl
  simp only [emp, Bool.false_eq_true, if_false]
  have i0z := D.zi i0 List.mem_cons_self
  refine wpAny_bind (owned_free hz hf ?_ fun h1 hz1 hs1 => ?_)
  · simp only [if_true]
    refine wpAny_bind (wpAny_rule ?_)
    refine wpAny_bind (wpAny_field hz rfl (x := .ref TO) rfl ?_)
    refine wpAny_bind (wpAny_setField_rec hz (by simp) fun h₁ hz₁ hs₁ => ?_)
    replace hz₁ : h₁.get? z = some (ZipObj .ellipsis g TI TO) := hz₁
    refine wpAny_bind (wp_forIn (l := ((i0 :: rest).map Value.ref).toArray.toList.zipIdx) (fun _ => ⟨none, PUnit.unit⟩) (fun i s' => i = 0 ∧ s' = { s with heap := h₁ }) rfl ⟨rfl, rfl⟩ ?_ fun s' h => by simp at h)
    rintro i x s' hx ⟨rfl, rfl⟩
    obtain rfl := (Option.some.inj hx).symm
    refine wpAny_bind (wpAny_onRaise ?_)
    show wpAny _ _ (Builtin.SmallTypes.nextOf (.ref i0) >>= _) _ _ _
    refine wpAny_bind (wpAny_nextOf_list_end hh (hit0.extBut hs₁.extBut i0z) (hxs.extBut hs₁.extBut (D.lz l0 lm)) hxp fun h₂ e hs₂ he => ?_)
    obtain ⟨oe, hoe, hce⟩ := he
    have hz₂ : h₂.get? z = some (ZipObj .ellipsis g TI TO) := hs₂ _ _ i0z.symm hz₁
    have hez : e ≠ z := fun x => by subst x; rw [hz₂] at hoe; cases hoe; simp at hce
    refine wpAny_setField_rec hz₂ (by simp) fun h₃ _ hs₃ => hE h₃ e (fun c o c1 _ c3 x => hs₃.extBut _ _ c1 (hs₂ _ _ (fun z => c3 (by rw [z]; exact List.mem_cons_self)) (hs₁.extBut _ _ c1 x))) ⟨oe, hs₃.extBut _ _ hez hoe, hce⟩
  · simp only [Bool.false_eq_true, if_false]
    rw [← Array.forIn_toList]
    refine wpAny_bind (wp_forIn (fun i => ⟨none, #[]⟩) (fun i s' => i = 0 ∧ s' = { s with heap := h1 }) rfl ⟨rfl, rfl⟩ ?_ fun s' h => by simp at h)
    rintro i x s' hx ⟨rfl, rfl⟩
    obtain rfl := (Option.some.inj hx).symm
    refine wpAny_bind (wpAny_holding ?_)
    show wpAny _ _ (Builtin.SmallTypes.nextOf (.ref i0) >>= _) _ _ _
    refine wpAny_bind (wpAny_nextOf_list_end hh (hit0.extBut hs1.extBut i0z) (hxs.extBut hs1.extBut (D.lz l0 lm)) hxp fun h₂ e hs₂ he => ?_)
    exact hE h₂ e (fun c o c1 _ c3 x => hs₂ _ _ (fun z => c3 (by rw [z]; exact List.mem_cons_self)) (hs1.extBut _ _ c1 x)) he
theorem zipN_pyNext {z TI TO : Addr} {its ls : List Addr} {pos : Nat} {vs : List Value} {Q : Option Value → Shared → Prop} (D : Ap z TI TO its ls) (st : ZN s.heap z TI TO its ls pos) (ne : its ≠ []) (sz : its.length ≤ 1000)
    (lv : vs.length = its.length) (hl : ∀ (k : Nat) l v, ls[k]? = some l → vs[k]? = some v → ∃ xs, s.heap.IsList l xs ∧ xs[pos]? = some v)
    (hQ : ∀ h', ZN h' z TI TO its ls (pos + 1) → h'.get? s.heap.objs.size = some { cls := .type "tuple", data := .seq vs.toArray } → h'.objs.size = s.heap.objs.size + 1 → (∀ c o, c ≠ z → c ≠ TO → c ∉ its → s.heap.get? c = some o → h'.get? c = some o) → Q (some (.ref s.heap.objs.size)) { s with heap := h' }) :
    wpAny (model prog w) A (pyNext (.ref z)) Q E s := by
  obtain ⟨f, g, hz, hf⟩ := st.zip
  have hT : s.TypeIs (.ref z) "zip" := ⟨_, hz, rfl⟩
  unfold pyNext
  exact wpAny_bind (wpAny_attempt (wpAny_callSpecial?_slot (name := Str.ofString "__next__") hT F.slot_zip_next
    (wpAny_call_entry F.slot_zip_next hT F.entry_zip_next
      (zipN_next D st ne sz lv hl fun h' a1 a2 a3 a4 => wpAny_pure (hQ h' a1 a2 a3 a4)) (F.args_zip_next_1 _))))
theorem zipN_pyStop {z TI TO : Addr} {its ls : List Addr} {pos : Nat} {Q : Option Value → Shared → Prop} (hh : A.handled = none) (D : Ap z TI TO its ls) (st : ZN s.heap z TI TO its ls pos) (ne : its ≠ [])
    (hl : ∀ l, ls[0]? = some l → ∃ xs, s.heap.IsList l xs ∧ xs[pos]? = none)
    (hQ : ∀ h', (∀ c o, c ≠ z → c ≠ TO → c ∉ its → s.heap.get? c = some o → h'.get? c = some o) → Q none { s with heap := h' }) : wpAny (model prog w) A (pyNext (.ref z)) Q E s := by
  obtain ⟨f, g, hz, hf⟩ := st.zip
  have hT : s.TypeIs (.ref z) "zip" := ⟨_, hz, rfl⟩
  unfold pyNext
  refine wpAny_bind (wpAny_attempt (wpAny_callSpecial?_slot (name := Str.ofString "__next__") hT F.slot_zip_next
    (wpAny_call_entry F.slot_zip_next hT F.entry_zip_next (zipN_end hh D st ne hl fun h' e hk he => ?_) (F.args_zip_next_1 _))))
  obtain ⟨o, ho, hc⟩ := he
  refine wpAny_bind (wpAny_isInstance (T := "StopIteration") (b := true) ⟨o, ho, hc⟩ isSubtype_stop ?_)
  exact wpAny_pure (hQ _ hk)
theorem typeCall_zipN : ∀ vs : List Value, vs.length ≤ 8 → checkTypeCall "zip" ⟨vs, []⟩ = pure ()
  | [], _ => by kernel_rfl
  | [_], _ => by kernel_rfl
  | [_, _], _ => by kernel_rfl
  | [_, _, _], _ => by kernel_rfl
  | [_, _, _, _], _ => by kernel_rfl
  | [_, _, _, _, _], _ => by kernel_rfl
  | [_, _, _, _, _, _], _ => by kernel_rfl
  | [_, _, _, _, _, _, _], _ => by kernel_rfl
  | [_, _, _, _, _, _, _, _], _ => by kernel_rfl
  | _ :: _ :: _ :: _ :: _ :: _ :: _ :: _ :: _ :: _, h => by simp only [List.length_cons] at h; omega
theorem newCall_zipN : ∀ vs : List Value, vs.length ≤ 8 → checkBuiltinCall "zip.__new__" ⟨.type "zip" :: vs, []⟩ = pure ()
  | [], _ => by kernel_rfl
  | [_], _ => by kernel_rfl
  | [_, _], _ => by kernel_rfl
  | [_, _, _], _ => by kernel_rfl
  | [_, _, _, _], _ => by kernel_rfl
  | [_, _, _, _, _], _ => by kernel_rfl
  | [_, _, _, _, _, _], _ => by kernel_rfl
  | [_, _, _, _, _, _, _], _ => by kernel_rfl
  | [_, _, _, _, _, _, _, _], _ => by kernel_rfl
  | _ :: _ :: _ :: _ :: _ :: _ :: _ :: _ :: _ :: _, h => by simp only [List.length_cons] at h; omega
theorem args_initN (obj : Value) : ∀ vs : List Value, vs.length ≤ 8 → argsOk "object.__init__" ⟨obj :: vs, []⟩
  | [], _ => by unfold argsOk; kernel_rfl
  | [_], _ => by unfold argsOk; kernel_rfl
  | [_, _], _ => by unfold argsOk; kernel_rfl
  | [_, _, _], _ => by unfold argsOk; kernel_rfl
  | [_, _, _, _], _ => by unfold argsOk; kernel_rfl
  | [_, _, _, _, _], _ => by unfold argsOk; kernel_rfl
  | [_, _, _, _, _, _], _ => by unfold argsOk; kernel_rfl
  | [_, _, _, _, _, _, _], _ => by unfold argsOk; kernel_rfl
  | [_, _, _, _, _, _, _, _], _ => by unfold argsOk; kernel_rfl
  | _ :: _ :: _ :: _ :: _ :: _ :: _ :: _ :: _ :: _, h => by simp only [List.length_cons] at h; omega
end
end Kh

set_option maxRecDepth 100000
set_option maxHeartbeats 1000000
namespace Kh
open PySem PySem.Spec PyProof.Rows L2
section
variable {prog : Program} {w : World} {A : Around} {E : Value → Shared → Prop} {s : Shared}
theorem newClass_zip {vs : List Value} {Q : Value × List Value → Shared → Prop} (h : Q (.type "zip", vs) s) : wpAny (model prog w) A (Builtin.SmallTypes.newClass "zip" ⟨.type "zip" :: vs, []⟩) Q E s := by
  have hsub := sub_zip
  obtain ⟨hp, g, d, tk, os⟩ := s
  unfold Builtin.SmallTypes.newClass
  wp_walk
  exact h
theorem iterAll_lists {ls : List Addr} {Q : List Value → Shared → Prop} (hl : ∀ l ∈ ls, ∃ xs, s.heap.IsList l xs)
    (hQ : ∀ h', (∀ (k : Nat) l, ls[k]? = some l → h'.IsListIter (s.heap.objs.size + k) l 0) → h'.objs.size = s.heap.objs.size + ls.length → (∀ c o, s.heap.get? c = some o → h'.get? c = some o) → Q ((List.range ls.length).map fun k => Value.ref (s.heap.objs.size + k)) { s with heap := h' }) :
    wpAny (model prog w) A (Builtin.SmallTypes.iterAll (ls.map Value.ref)) Q E s := by
  unfold Builtin.SmallTypes.iterAll
  refine wpAny_bind (wp_forIn (fun i => ((List.range i).map fun k => Value.ref (s.heap.objs.size + k)).toArray) (fun i s' => ∃ h', s' = { s with heap := h' } ∧ (∀ (k : Nat) l, k < i → ls[k]? = some l → h'.IsListIter (s.heap.objs.size + k) l 0) ∧ h'.objs.size = s.heap.objs.size + i ∧ (∀ c o, s.heap.get? c = some o → h'.get? c = some o)) rfl ⟨_, rfl, fun k l h => absurd h (Nat.not_lt_zero k), rfl, fun _ _ e => e⟩ ?_ ?_)
  · rintro i x s' hx ⟨h', rfl, hit, sz, kp⟩
    rw [List.getElem?_map] at hx
    cases hi : ls[i]? with
    | none => rw [hi] at hx; cases hx
    | some l =>
      rw [hi] at hx
      obtain rfl := (Option.some.inj hx).symm
      obtain ⟨xs, hxs⟩ := hl l (List.mem_of_getElem? hi)
      have hxs' : h'.IsList l xs := hxs.at fun o e => kp l o e
      refine wpAny_bind (wpAny_holding (wpAny_pyIter_list hxs' (wpAny_pure ⟨?_, _, rfl, fun k l2 hk hk2 => ?_, ?_, fun c o e => Heap.get?_push_of_some _ (kp c o e)⟩)))
      · show ForInStep.yield _ = ForInStep.yield _
        rw [List.range_succ, List.map_append, sz]
        simp
      · by_cases e : k = i
        · subst e
          rw [hi] at hk2
          cases hk2
          refine ⟨{ cls := .type "list_iterator", data := .fields #[.ref l, .int 0 0] }, ?_, rfl, rfl⟩
          rw [← sz]
          exact Heap.get?_push_size _ rfl
        · exact (hit k l2 (by omega) hk2).at fun o e => Heap.get?_push_of_some _ e
      · show (h'.push _).objs.size = _
        rw [Heap.size_push, sz]; omega
  · rintro s' ⟨h', rfl, hit, sz, kp⟩
    rw [List.length_map] at hit sz ⊢
    refine wpAny_pure ?_
    exact hQ h' (fun k l h => hit k l (List.getElem?_eq_some_iff.mp h).1 h) sz kp
end
theorem meets_zipN (ls : List Addr) (l8 : ls.length ≤ 8) : Meets (Builtin.«zip.__new__» ⟨.type "zip" :: ls.map Value.ref, []⟩) (fun _ R s => (∀ l ∈ ls, ∃ xs, s.heap.IsList l xs) ∧
    ∀ h', h'.get? (s.heap.objs.size + ls.length + 2) = some (ZipObj .none false (s.heap.objs.size + ls.length) (s.heap.objs.size + ls.length + 1)) → h'.get? (s.heap.objs.size + ls.length) = some { cls := .type "tuple", data := .seq (((List.range ls.length).map fun k => s.heap.objs.size + k).map Value.ref).toArray } →
      (∃ ys : Array Value, h'.get? (s.heap.objs.size + ls.length + 1) = some { cls := .type "tuple", data := .seq ys } ∧ ys.size = ls.length) → (∀ (k : Nat) l, ls[k]? = some l → h'.IsListIter (s.heap.objs.size + k) l 0) → (∀ c o, s.heap.get? c = some o → h'.get? c = some o) →
      R (.ok (.ret (.ref (s.heap.objs.size + ls.length + 2)))) { s with heap := h' }) :=
  .of_wp fun prog w A R s h => by
    obtain ⟨hl, h⟩ := h
    unfold Builtin.«zip.__new__»
    refine wpAny_bind (newClass_zip ?_)
    simp only [List.length_nil, gt_iff_lt, Nat.not_lt_zero, if_false]
    refine wpAny_bind (iterAll_lists hl fun h1 hit sz kp => ?_)
    refine wpAny_bind (wpAny_newTuple (hsz := Nat.le_trans (by simp; omega) (show 8 ≤ sizeLine by decide)) ?_)
    refine wpAny_bind (wpAny_newTuple (hsz := Nat.le_trans (by simp; omega) (show 8 ≤ sizeLine by decide)) ?_)
    unfold Builtin.SmallTypes.newRecord
    refine wpAny_bind (wpAny_newObj_type ?_ (show (5 : Nat) ≤ sizeLine + 2 by decide))
    have ez : h1.objs.size = s.heap.objs.size + ls.length := sz
    have e1 : (h1.push { cls := .type "tuple", data := .seq ((List.range ls.length).map fun k => Value.ref (s.heap.objs.size + k)).toArray }).objs.size = s.heap.objs.size + ls.length + 1 := by rw [Heap.size_push, ez]
    refine wpAny_pure ⟨_, rfl, ?_⟩
    show R (.ok (.ret (.ref ((h1.push { cls := .type "tuple", data := .seq ((List.range ls.length).map fun k => Value.ref (s.heap.objs.size + k)).toArray }).push { cls := .type "tuple", data := .seq (((List.range ls.length).map fun k => Value.ref (s.heap.objs.size + k)).map fun _ => Value.none).toArray }).objs.size))) { s with heap := _ }
    have e2 : ((h1.push { cls := .type "tuple", data := .seq ((List.range ls.length).map fun k => Value.ref (s.heap.objs.size + k)).toArray }).push { cls := .type "tuple", data := .seq (((List.range ls.length).map fun k => Value.ref (s.heap.objs.size + k)).map fun _ => Value.none).toArray }).objs.size = s.heap.objs.size + ls.length + 2 := by rw [Heap.size_push, e1]
    rw [e2]
    refine h _ ?_ ?_ ⟨(((List.range ls.length).map fun k => Value.ref (s.heap.objs.size + k)).map fun _ => Value.none).toArray, ?_, by simp⟩ (fun k l hk => ?_) fun c o e => Heap.get?_push_of_some _ (Heap.get?_push_of_some _ (Heap.get?_push_of_some _ (kp c o e)))
    · have q := Heap.get?_push_size ((h1.push { cls := .type "tuple", data := .seq ((List.range ls.length).map fun k => Value.ref (s.heap.objs.size + k)).toArray }).push { cls := .type "tuple", data := .seq (((List.range ls.length).map fun k => Value.ref (s.heap.objs.size + k)).map fun _ => Value.none).toArray }) (o := ZipObj .none false (s.heap.objs.size + ls.length) (s.heap.objs.size + ls.length + 1)) rfl
      rw [e2] at q
      rw [← q]
      show Heap.get? (Heap.push _ { cls := .type "zip", data := .fields #[.none, .bool false, .bool false, .ref h1.objs.size, .ref (h1.push _).objs.size] }) _ = _
      rw [e1, ez]
    · have q := Heap.get?_push_size h1 (o := { cls := .type "tuple", data := .seq ((List.range ls.length).map fun k => Value.ref (s.heap.objs.size + k)).toArray }) rfl
      rw [ez] at q
      have em : (((List.range ls.length).map fun k => s.heap.objs.size + k).map Value.ref) = (List.range ls.length).map fun k => Value.ref (s.heap.objs.size + k) := by rw [List.map_map]; rfl
      rw [em]
      exact Heap.get?_push_of_some _ (Heap.get?_push_of_some _ q)
    · have q := Heap.get?_push_size (h1.push { cls := .type "tuple", data := .seq ((List.range ls.length).map fun k => Value.ref (s.heap.objs.size + k)).toArray }) (o := { cls := .type "tuple", data := .seq (((List.range ls.length).map fun k => Value.ref (s.heap.objs.size + k)).map fun _ => Value.none).toArray }) rfl
      rw [e1] at q
      exact Heap.get?_push_of_some _ q
    · exact (hit k l hk).at fun o e => Heap.get?_push_of_some _ (Heap.get?_push_of_some _ (Heap.get?_push_of_some _ e))
section
variable {prog : Program} {w : World} {A : Around} {E : Value → Shared → Prop} {s : Shared}
theorem call_zipN {ls : List Addr} (l8 : ls.length ≤ 8) {Q : Value → Shared → Prop} (hl : ∀ l ∈ ls, ∃ xs, s.heap.IsList l xs)
    (h : ∀ h', ZN h' (s.heap.objs.size + ls.length + 2) (s.heap.objs.size + ls.length) (s.heap.objs.size + ls.length + 1) ((List.range ls.length).map fun k => s.heap.objs.size + k) ls 0 → (∀ c o, s.heap.get? c = some o → h'.get? c = some o) → Q (.ref (s.heap.objs.size + ls.length + 2)) { s with heap := h' }) :
    wpAny (model prog w) A (call (.type "zip") (ls.map Value.ref)) Q E s := by
  have lm : (ls.map Value.ref).length ≤ 8 := by rw [List.length_map]; exact l8
  refine callType_new F.called_zip (by decide) (typeCall_zipN _ lm) (newCall_zipN _ lm) (fun obj => args_initN obj _ lm) F.entry_zip_new (meets_zipN ls l8) ⟨hl, fun h' hz hti hto hit kp => ?_⟩
  refine ⟨⟨_, hz, rfl⟩, h h' ⟨⟨_, _, hz, .inl rfl⟩, hti, ?_, fun k i l hk hl => ?_⟩ kp⟩
  · obtain ⟨ys, h1, h2⟩ := hto
    exact ⟨ys, h1, by rw [h2]; simp⟩
  · rw [List.getElem?_map] at hk
    have kl : k < ls.length := (List.getElem?_eq_some_iff.mp hl).1
    rw [List.getElem?_range kl] at hk
    obtain rfl := (Option.some.inj hk).symm
    exact hit k l hl
theorem ap_zipN {n0 : Nat} {ls : List Addr} (h : ∀ l ∈ ls, l < n0) : Ap (n0 + ls.length + 2) (n0 + ls.length) (n0 + ls.length + 1) ((List.range ls.length).map fun k => n0 + k) ls := by
  have hi : ∀ i ∈ (List.range ls.length).map fun k => n0 + k, n0 ≤ i ∧ i < n0 + ls.length := fun i hi => by
    obtain ⟨k, hk, rfl⟩ := List.mem_map.mp hi
    have := List.mem_range.mp hk
    omega
  refine ⟨by simp, by show n0 + ls.length ≠ n0 + ls.length + 2; omega, by show n0 + ls.length + 1 ≠ n0 + ls.length + 2; omega, by show n0 + ls.length ≠ n0 + ls.length + 1; omega, fun i h1 => ?_, fun i h1 => ?_, fun i h1 => ?_, ?_, fun l h1 => ?_, fun l h1 => ?_, fun l h1 h2 => ?_⟩
  · have := hi i h1; exact Nat.ne_of_lt (by omega)
  · have := hi i h1; exact Nat.ne_of_lt (by omega)
  · have := hi i h1; exact Nat.ne_of_lt (by omega)
  · exact List.pairwise_map.mpr (List.nodup_range.imp fun {a b} q e => q (Nat.add_left_cancel e))
  · exact Nat.ne_of_lt (Nat.lt_of_lt_of_le (h l h1) (Nat.le_trans (Nat.le_add_right n0 ls.length) (Nat.le_add_right _ 2)))
  · exact Nat.ne_of_lt (Nat.lt_of_lt_of_le (h l h1) (Nat.le_trans (Nat.le_add_right n0 ls.length) (Nat.le_add_right _ 1)))
  · exact Nat.lt_irrefl _ (Nat.lt_of_lt_of_le (h l h1) (hi l h2).1)
theorem iter_zipN {z TI TO : Addr} {its ls : List Addr} {pos : Nat} {Q : Value → Shared → Prop} (st : ZN s.heap z TI TO its ls pos) (h : Q (.ref z) s) : wpAny (model prog w) A (pyIter (.ref z)) Q E s := by
  obtain ⟨f, g, hz, hf⟩ := st.zip
  have hT : s.TypeIs (.ref z) "zip" := ⟨_, hz, rfl⟩
  refine wpAny_pyIter_slot hT F.slot_zip_iter (wpAny_call_entry F.slot_zip_iter hT F.entry_zip_iter ?_ (F.args_zip_iter_1 _))
  show wpAny _ _ (ret (.ref z)) _ _ s
  exact wpAny_pure ⟨_, rfl, "zip", _, hT, F.slot_zip_next.lookup, h⟩
end
end Kh

set_option maxRecDepth 100000
set_option maxHeartbeats 1000000
/-! for x in zip(*lists), in a comprehension -/
namespace Kh
open PySem PySem.Spec PyProof.Rows L2
section
variable {prog : Program} {w : World} {A : Around} {E : Value → Shared → Prop} {s : Shared}
theorem star_list {a : Addr} {its : Array Value} {Q : List Value → Shared → Prop} (hl : s.heap.IsList a its) (hz : its.size ≤ sizeLine) (h : ∀ h', (∀ b o, s.heap.get? b = some o → h'.get? b = some o) → Q its.toList { s with heap := h' }) : PySem.W.StarOf (model prog w) A E (.ref a) Q s := by
  obtain ⟨o, ho, hc, n, hd⟩ := hl
  have hT : s.TypeIs (.ref a) "list" := ⟨o, ho, hc⟩
  unfold PySem.W.StarOf notIterableAtAll
  exact wpAny_bind (wpAny_specialOf hT PySem.F.slot_list_iter.lookup (wpAny_pure ⟨rfl, wpAny_collect_seq a (.inl rfl) ho hc hd h hz⟩))
end
def ItzN (K : PySem.W.Frag) (as : List Addr) : It :=
  ⟨fun i H => ∃ vs : List V, vs.length = as.length ∧ ∀ (k : Nat) a v, as[k]? = some a → vs[k]? = some v → ∃ xs, SqL K H a xs ∧ xs[i]? = some v,
   fun i H v H' => ∃ T vs, v = .ref T ∧ H T = none ∧ H' = upd H T (.tup vs) ∧ vs.length = as.length ∧ ∀ (k : Nat) a u, as[k]? = some a → vs[k]? = some u → ∀ xs, SqL K H a xs → xs[i]? = some u,
   fun i H => ∀ a, as[0]? = some a → ∃ xs, SqL K H a xs ∧ xs.length ≤ i⟩
theorem vals_zipN {X : Cx} {pins : List (Addr × Obj)} {σ : L2.St} {H : Hp} {s : Shared} (I : Inv X pins σ H s) (i : Nat) : ∀ (as : List Addr) (vs : List V), vs.length = as.length → (∀ (k : Nat) a v, as[k]? = some a → vs[k]? = some v → ∃ xs, SqL X.K H a xs ∧ xs[i]? = some v) →
    ∃ us : List Value, Vals vs us ∧ us.length = as.length ∧ ∀ (k : Nat) a u, as[k]? = some a → us[k]? = some u → ∃ xs, s.heap.IsList a xs ∧ xs[i]? = some u
  | [], [], _, _ => ⟨[], .nil, rfl, fun k a u h => by simp at h⟩
  | [], _ :: _, h, _ => by cases h
  | _ :: _, [], h, _ => by cases h
  | a :: as, v :: vs, hl, hh => by
    obtain ⟨us, r, l, g⟩ := vals_zipN I i as vs (Nat.succ.inj hl) fun k a v h1 h2 => hh (k + 1) a v h1 h2
    obtain ⟨xs, hx, hi⟩ := hh 0 a v rfl rfl
    obtain ⟨its, rv, p, _⟩ := I.list hx
    obtain ⟨u, hu, ru⟩ := rv.get hi
    refine ⟨u :: us, .cons ru r, by simp [l], fun k a' u' h1 h2 => ?_⟩
    cases k with
    | zero =>
      cases h1; cases h2
      exact ⟨its.toArray, p.isList, by simpa using hu⟩
    | succ k => exact g k a' u' h1 h2
theorem turn_zipN {P : Program} {w : World} {K : PySem.W.Frag} {y : Str} {tpos : Pos} {z TI TO : Addr} {its as : List Addr} (D : Ap z TI TO its as) (ne : as ≠ []) (l8 : as.length ≤ 8) :
    Turn P w K (.Name y tpos) (ItzN K as) (z :: TI :: TO :: its) z (fun i h => ZN h z TI TO its as i) where
  mem := List.mem_cons_self
  obj := fun i h st c hc => by
    obtain ⟨⟨f, g, hz, _⟩, hTI, ⟨ys, hTO, _⟩, hit⟩ := st
    rcases List.mem_cons.mp hc with rfl | hc
    · exact ⟨_, hz, fun v q => nomatch q⟩
    rcases List.mem_cons.mp hc with rfl | hc
    · exact ⟨_, hTI, fun v q => nomatch q⟩
    rcases List.mem_cons.mp hc with rfl | hc
    · exact ⟨_, hTO, fun v q => nomatch q⟩
    · obtain ⟨k, hk⟩ := List.getElem?_of_mem hc
      have kl := (List.getElem?_eq_some_iff.mp hk).1
      obtain ⟨l, hl⟩ : ∃ l, as[k]? = some l := ⟨_, List.getElem?_eq_getElem (by rw [D.len]; exact kl)⟩
      obtain ⟨o, e, _, d⟩ := hit k c l hk hl
      exact ⟨o, e, fun v q => by rw [d] at q; cases q⟩
  keep := fun i h h' st k => by
    obtain ⟨⟨f, g, hz, hf⟩, hTI, ⟨ys, hTO, ly⟩, hit⟩ := st
    exact ⟨⟨f, g, k z (by simp) _ hz, hf⟩, k TI (by simp) _ hTI, ⟨ys, k TO (by simp) _ hTO, ly⟩, fun j i l h1 h2 => (hit j i l h1 h2).at fun o q => k i (by simp [List.mem_of_getElem? h1]) o q⟩
  item := by
    intro X hP hw hK hc i pins s σ H E I hf st hg
    subst hP hw hK
    obtain ⟨vs, lv, hv⟩ := hg
    obtain ⟨us, r, lu, gu⟩ := vals_zipN I i as vs lv hv
    have ne' : its ≠ [] := fun z => by
      have := D.len
      rw [z, List.length_nil] at this
      exact ne (List.eq_nil_of_length_eq_zero this)
    have ll := D.len
    refine zipN_pyNext D st ne' (by omega) (by omega) gu fun h' st' hT hsz hk => ⟨_, rfl, ?_⟩
    show wpAny _ _ (pure ()) _ _ _
    have new : ObjOk X.prog X.w (upd H s.heap.objs.size (.tup vs)) h' s.heap.objs.size (.tup vs) :=
      ⟨Nat.le_trans (show vs.length ≤ 8 by omega) (by decide), us, r, ⟨_, hT, rfl, _, rfl⟩⟩
    have I1 : Inv X pins σ (upd H s.heap.objs.size (.tup vs)) { s with heap := h' } :=
      I.turnedNew (t' := s.toks) (ch := z :: TI :: TO :: its) (fun c o hb q => hk c o (fun e => hb (by simp [e])) (fun e => hb (by simp [e])) (fun e => hb (by simp [e])) q) hf (Nat.le_refl _) new
    refine wpAny_pure ⟨.ref s.heap.objs.size, _, I1, rfl, ⟨_, vs, rfl, I.hok.fresh (Nat.le_refl _), rfl, lv, fun k a u h1 h2 xs hxs => ?_⟩, st', fun c hcm => ?_⟩
    · obtain ⟨xs', hx', e⟩ := hv k a u h1 h2
      rw [I.list_inj hxs hx']; exact e
    · have hlt : c < s.heap.objs.size := by
        obtain ⟨⟨f, g, hz, _⟩, hTI, ⟨ys, hTO, _⟩, hit⟩ := st
        rcases List.mem_cons.mp hcm with rfl | hc
        · exact Heap.lt_size hz
        rcases List.mem_cons.mp hc with rfl | hc
        · exact Heap.lt_size hTI
        rcases List.mem_cons.mp hc with rfl | hc
        · exact Heap.lt_size hTO
        · obtain ⟨k, hk⟩ := List.getElem?_of_mem hc
          have kl := (List.getElem?_eq_some_iff.mp hk).1
          obtain ⟨l, hl⟩ : ∃ l, as[k]? = some l := ⟨_, List.getElem?_eq_getElem (by rw [D.len]; exact kl)⟩
          obtain ⟨o, e, _⟩ := hit k c l hk hl
          exact Heap.lt_size e
      rw [upd_ne (Nat.ne_of_lt hlt)]
      exact (hf c hcm).1
  done := by
    intro X hP hw hK hc i pins s σ H E I hf st hg
    subst hP hw hK
    have ne' : its ≠ [] := fun z => by
      have := D.len
      rw [z, List.length_nil] at this
      exact ne (List.eq_nil_of_length_eq_zero this)
    refine zipN_pyStop (I.ok.hd hc) D st ne' (fun l hl => ?_) fun h' hk => ⟨rfl, I.turnedL (t' := s.toks) (ch := z :: TI :: TO :: its) (fun c o hb q => hk c o (fun e => hb (by simp [e])) (fun e => hb (by simp [e])) (fun e => hb (by simp [e])) q) hf⟩
    obtain ⟨xs, hxs, hle⟩ := hg l hl
    obtain ⟨us, rv, p, _⟩ := I.list hxs
    have := rv.length
    exact ⟨us.toArray, p.isList, by simp; omega⟩
  self := fun A i s Q E st h => iter_zipN st h
def iZipS (K : PySem.W.Frag) (te : TE) : TI := fun σ H R => te σ H fun x H1 => ∃ (l : Addr) (as : List Addr), x = .ref l ∧ SqL K H1 l (as.map V.ref) ∧ as ≠ [] ∧ as.length ≤ 8 ∧ (∀ a ∈ as, ∃ xs, SqL K H1 a xs) ∧ R (ItzN K as) H1
theorem vals_refs : ∀ {as : List Addr} {us : List Value}, Vals (as.map V.ref) us → us = as.map Value.ref
  | [], _, h => by cases h; rfl
  | a :: as, _, h => by
    cases h with
    | cons r t => cases r; rw [vals_refs t]; rfl
theorem pi_zipS {X : Cx} {e : Expr} {te : TE} {p pos tpos sp : Pos} {y : Str} (hg : Gl X "zip") (hm : X.mg "zip" = none) (he : PE X e te) (hs : starEach [.Starred e sp] X.env = [(true, eval e X.env)] := by rfl) :
    PI X (.Name y tpos) (.Call (.Name "zip" p) [.Starred e sp] [] pos) (iZipS X.K te) := by
  refine ⟨fun pins s σ H R I h => ?_⟩
  refine Call_ (ld_blt I hg hm PyProof.Rows.boot_zip ?_)
  rw [hs]
  refine PySem.W.ks_call (P := fun _ => True) rfl (fun h _ => ⟨.machine, .inr (.inl rfl), PySem.W.Looks.of_pure rfl⟩) (PySem.W.ks_lone ?_)
  refine thn (he.run pins s σ H _ I h) fun v s1 ⟨x, H1, I1, r1, l, as, ex, hl, ne, l8, hal, q⟩ => ?_
  subst ex
  cases r1
  obtain ⟨its, rv, p1, _⟩ := I1.list hl
  have ei := vals_refs rv
  subst ei
  refine star_list p1.isList (Nat.le_trans (by simp; omega) (show 8 ≤ sizeLine by decide)) fun h1 kp1 => ⟨trivial, ?_⟩
  have I2 : Inv X pins σ H1 { s1 with heap := h1 } := I1.kept (t' := s1.toks) kp1
  have lists : ∀ a ∈ as, ∃ xs, h1.IsList a xs := fun a ha => by
    obtain ⟨xs, hx⟩ := hal a ha
    obtain ⟨us, _, p2, _⟩ := I2.list hx
    exact ⟨_, p2.isList⟩
  have small : ∀ a ∈ as, a < h1.objs.size := fun a ha => by
    obtain ⟨xs, o, ho, _⟩ := lists a ha
    exact Heap.lt_size ho
  show wpAny _ _ (call (.type "zip") (as.map Value.ref)) _ _ _
  refine call_zipN (s := { s1 with heap := h1 }) l8 lists fun h' st kp => iter_zipN (s := { s1 with heap := h' }) st ?_
  have I3 : Inv X pins σ H1 { s1 with heap := h' } := I2.kept (t' := s1.toks) kp
  refine ⟨_, _, _, _, H1, rfl, I3, turn_zipN (ap_zipN small) ne l8, st, fun c hcm => ?_, q⟩
  have hle : h1.objs.size ≤ c := by
    rcases List.mem_cons.mp hcm with rfl | hc
    · exact Nat.le_trans (Nat.le_add_right _ as.length) (Nat.le_add_right _ 2)
    rcases List.mem_cons.mp hc with rfl | hc
    · exact Nat.le_add_right _ _
    rcases List.mem_cons.mp hc with rfl | hc
    · exact Nat.le_trans (Nat.le_add_right _ as.length) (Nat.le_add_right _ 1)
    · obtain ⟨k, _, rfl⟩ := List.mem_map.mp hc
      exact Nat.le_add_right _ _
  exact I2.fpOk hle (I2.hok.fresh hle)
theorem k_sum {X : Cx} {K : PySem.W.Frag} (hc : X.calm = true) (h : X.K = K := by rfl) : CallR X (.builtin "sum") (rSum K) := by subst h; exact cr_sum hc
end Kh

set_option maxRecDepth 100000
set_option maxHeartbeats 4000000
namespace K31
open PySem PySem.Spec PyProof.Rows L2 Kh
section
variable {P : Program} {w : World} {K : PySem.W.Frag} {mg : Str → Option Value} {base : Heap} {a : Nat → Addr} {fd : Nat → FuncData} {C : Addr} {tk : Nat → Tok}
def col (L : List (List Nat)) (j : Nat) : List Nat := L.map fun m => m.getD j 0
theorem refs_of {H : Hp} : ∀ {xs : List V} {L : List (List Nat)}, DpAll K H xs (L.map nL) → ∃ as : List Addr, xs = as.map V.ref ∧ as.length = L.length ∧ ∀ (k : Nat) b m, as[k]? = some b → L[k]? = some m → SqL K H b (ivs m)
  | _, [], h => by cases h; exact ⟨[], rfl, rfl, fun k b m h => by simp at h⟩
  | _, m :: L, h => by
    cases h with
    | cons h1 h2 =>
      obtain ⟨as, e, l, g⟩ := refs_of h2
      obtain ⟨b, ys, rfl, hs, ha⟩ := list_at (ds := m.map nD) h1
      have ey := dpa_nats ha
      subst ey
      refine ⟨b :: as, by rw [e]; rfl, by simp [l], fun k b' m' e1 e2 => ?_⟩
      cases k with
      | zero => cases e1; cases e2; exact hs
      | succ k => exact g k b' m' e1 e2
theorem ivs_get {m : List Nat} {j N : Nat} (hN : m.length = N) (hj : j < N) : (ivs m)[j]? = some (.int ((m.getD j 0 : Nat) : Int)) := by
  rw [List.getElem?_map, List.getElem?_eq_getElem (by omega), List.getD_eq_getElem?_getD, List.getElem?_eq_getElem (by omega)]; rfl
/-- [e for x in zip(*lists)] -/
theorem lcN {S : Addr → Prop} {H : Hp} {σ : L2.St} {t te : TE} {sl : Nat} {vs : List Nat} {Q : VK} (L : List (List Nat)) (N : Nat) (hL : ∀ m ∈ L, m.length = N) (ne : L ≠ []) (l8 : L.length ≤ 8) (hN : N ≤ 1000) (g : Nat → PyData) (kn : Kn S H)
    (hev : ∀ Q : VK, (∀ u H1, Same H H1 → Dp K (off S H1) u (nLL L) → Q u H1) → t σ H Q) (hw : ∀ x, wipe ((wipe σ vs).set sl (some x)) vs = wipe σ vs)
    (body : ∀ j, j < N → ∀ x H1 S', Same H H1 → Kn S' H1 → Dp K (off S' H1) x (.tuple ((col L j).map nD)) → (∀ a, S a → S' a) → Same (off S H) (off S' H1) → ∀ Q : VK, (∀ y H', Same H1 H' → Dp K (off S' H') y (g j) → Q y H') → te ((wipe σ vs).set sl (some x)) H1 Q)
    (done : ∀ D H1 ys, H D = none → Same H H1 → H1 D = some (.lst ys) → DpAll K (off S H1) ys ((List.range N).map g) → Q (.ref D) H1) :
    tLc (iZipS K t) (gName sl) tYes te vs σ H Q := by
  refine hev _ fun u H1 s h1 => ?_
  obtain ⟨ra, xs, rfl, hsa, ha⟩ := list_at (ds := L.map nL) h1
  obtain ⟨as, rfl, las, hat⟩ := refs_of ha
  have kn1 := kn.same s
  have hne : as ≠ [] := fun z => by rw [z] at las; exact ne (List.eq_nil_of_length_eq_zero las.symm)
  have Lk : ∀ {k b}, as[k]? = some b → ∃ m : List Nat, L[k]? = some m ∧ m.length = N := fun {k b} h => by
    have : k < L.length := by rw [← las]; exact (List.getElem?_eq_some_iff.mp h).1
    exact ⟨L[k], List.getElem?_eq_getElem this, hL _ (List.getElem_mem this)⟩
  have seq : ∀ {H'}, Same H1 H' → ∀ k b m, as[k]? = some b → L[k]? = some m → SqL K H' b (ivs m) := fun {H'} z k b m e1 e2 => (off_sub.trans z).seq (hat k b m e1 e2)
  refine ⟨ra, as, rfl, off_sub.seq hsa, hne, by omega, fun b hb => ?_, fun D hD => ?_⟩
  · obtain ⟨k, hk⟩ := List.getElem?_of_mem hb
    obtain ⟨m, hm, _⟩ := Lk hk
    exact ⟨_, seq (Same.refl _) k b m hk hm⟩
  have w : Walk (ItzN K as) N (fun H' => Same H1 H') (fun i H x H' => ∃ T, x = .ref T ∧ H T = none ∧ H' = upd H T (.tup (ivs (col L i)))) := by
    refine ⟨fun i H' hi z => ?_, fun H' z => fun b hb => ?_, fun i H' x H2 hi z y => ?_⟩
    · refine ⟨ivs (col L i), by unfold col; simp [las], fun k b v h1 h2 => ?_⟩
      obtain ⟨m, hm, lm⟩ := Lk h1
      refine ⟨_, seq z k b m h1 hm, ?_⟩
      rw [ivs_get lm hi, ← h2]
      simp only [ivs, col, List.map_map, List.getElem?_map, hm]; rfl
    · obtain ⟨m, hm, lm⟩ := Lk hb
      exact ⟨_, seq z 0 b m hb hm, by rw [List.length_map, lm]; exact Nat.le_refl _⟩
    · obtain ⟨T0, vs', rfl, hT, rfl, lv', hv'⟩ := y
      refine ⟨T0, rfl, hT, ?_⟩
      have : vs' = ivs (col L i) := by
        refine List.ext_getElem? fun k => ?_
        by_cases hk : k < as.length
        · have h1 : as[k]? = some as[k] := List.getElem?_eq_getElem hk
          obtain ⟨m, hm, lm⟩ := Lk h1
          have h2 : vs'[k]? = some (vs'[k]'(by omega)) := List.getElem?_eq_getElem (by omega)
          have h3 := hv' k _ _ h1 h2 _ (seq z k _ m h1 hm)
          rw [ivs_get lm hi] at h3
          rw [h2, ← h3]
          simp only [ivs, col, List.map_map, List.getElem?_map, hm]; rfl
        · rw [List.getElem?_eq_none (by omega), List.getElem?_eq_none (by unfold col; simp; omega)]
      rw [this]
  refine wlk w (fun x H' Nx => gName sl x (wipe σ vs) H' fun σ2 H2 => wipe σ2 vs = wipe σ vs ∧ tYes σ2 H2 fun b H3 => if b = true then te σ2 H3 fun y H4 => ∃ acc, H4 D = some (.lst acc) ∧ acc.length < sizeLine ∧ Nx (upd H4 D (.lst (acc ++ [y]))) else Nx H3)
    (fun i H' => ∃ zs, DpAll K (off (plus S D) H') zs ((List.range i).map g) ∧ Same H1 H' ∧ H' D = some (.lst zs)) ⟨[], .nil, same_new hD, upd_same⟩ (fun i H' _ ⟨_, _, z, _⟩ => z) ?_ ?_
  · rintro i x H2 H3 hi ⟨zs, py, z, hd⟩ ⟨T0, rfl, hT, rfl⟩
    have sT := same_new (o := HO.tup (ivs (col L i))) hT
    have z3 := z.trans sT
    have hd3 := sT _ _ hd
    have knD : Kn (plus S D) H2 := (kn1.same z).plus (some_ne hd)
    have dT := dp_newT (K := K) knD hT (nats_dpa (col L i))
    have py3 := dpa_same (off_same (S := plus S D) sT) _ _ py
    have kn3 := knD.same sT
    generalize upd H2 T0 (.tup (ivs (col L i))) = H3 at *
    have hl : zs.length ≤ 1000 := by
      have := dpa_len py
      rw [List.length_map, List.length_range] at this
      omega
    refine ⟨hw _, t_yes ?_⟩
    refine body i hi (.ref T0) H3 (plus S D) (s.trans z3) kn3 dT (fun _ h => .inl h) ((off_same s).trans (off_plus hD z3)) _ fun u H7 s7 d7 => ?_
    refine ⟨zs, s7 _ _ hd3, Nat.lt_of_le_of_lt hl (by decide), zs ++ [u], ?_, smut (z3.trans s7) hD, upd_same⟩
    rw [off_mut (show plus S D D from .inr rfl), List.range_succ, List.map_append]
    exact dpa_app (dpa_same (off_same s7) _ _ py3) (.cons d7 .nil)
  · rintro H2 ⟨zs, py, z, hd⟩
    exact done D H2 zs (s.free hD) (s.trans z) hd (dpa_same (off_fin (D := D)) _ _ py)
def sumL (L : List (List Nat)) (N : Nat) : List Nat := (List.range N).map fun j => (col L j).sum
structure PreS (x : List (List Nat) × Nat) : Prop where
  all : ∀ m ∈ x.1, m.length = x.2
  ne : x.1 ≠ []
  l8 : x.1.length ≤ 8
  hN : x.2 ≤ 1000
theorem sum_asI : ∀ m : List Nat, (m.map fun n : Nat => ((n : Nat) : Int)).sum = ((m.sum : Nat) : Int)
  | [] => rfl
  | n :: m => by rw [List.map_cons, List.sum_cons, List.sum_cons, sum_asI m]; omega
/-- a new list of numbers -/
def NewL (H H' : Hp) (v : V) (m : List Nat) : Prop := ∃ l, v = .ref l ∧ H l = none ∧ H' l = some (.lst (ivs m))
theorem NewL.dp {S : Addr → Prop} {H H' : Hp} {v : V} {m : List Nat} (h : NewL H H' v m) (kn : Kn S H) : Dp K (off S H') v (nL m) := by
  obtain ⟨l, rfl, h1, h2⟩ := h
  exact dp_lst (kn.new h1) h2 (nats_dpa _)
theorem NewL.same {H H' H2 : Hp} {v : V} {m : List Nat} (h : NewL H H' v m) (s : Same H' H2) : NewL H H2 v m := by
  obtain ⟨l, rfl, h1, h2⟩ := h
  exact ⟨l, rfl, h1, s _ _ h2⟩
theorem NewL.older {H H' H2 : Hp} {v : V} {m : List Nat} (h : NewL H H' v m) (s : Same H2 H) : NewL H2 H' v m := by
  obtain ⟨l, rfl, h1, h2⟩ := h
  exact ⟨l, rfl, s.free h1, h2⟩
def spSum (K : PySem.W.Frag) : Sp := fun vs H Q _ => ∃ (S : Addr → Prop) (x : List (List Nat) × Nat) (v : V), vs = [v] ∧ Kn S H ∧ Dp K (off S H) v (nLL x.1) ∧ PreS x ∧ ∀ v H', Same H H' → NewL H H' v (sumL x.1 x.2) → Q v H'
theorem ok_sum_of (T : Txt K mg a fd C tk) : FnOk P w K mg base CX0 1 (a 26) (fd 26) ["lists"] (spSum K) := by
  refine T.F_sum_of.ok sc_sum_of (fun vs H Q E h => by obtain ⟨_, _, _, rfl, _⟩ := h; rfl) (fun cdv A outer s H vs Q E hr h => ?_)
  obtain ⟨S, ⟨L, N⟩, v, rfl, kn, hd, pre, q⟩ := h
  replace q : ∀ v H', Same H H' → NewL H H' v (sumL L N) → Q v H' := q
  refine ⟨_, (pss_one (ps_ret (pe_lc (own := [("numbers", 1)]) (g := gName 1) (tt := tYes) rfl sc_sum_of.nd (pi_zipS (by rfl) T.z_zip (pv 0)) (blkOk_by (own := [("numbers", 1)]) (N := sum_of_N) (sc := defScope sum_of_s) (by decide +kernel)) (fun _ _ _ _ _ => (pg_name (i := 1) sc_sum_of.nd rfl (Or.inl rfl))) (fun _ _ _ _ _ => pts_nil) (fun _ _ _ _ _ => (pe_callB (k_sum (K := K) rfl) (by rfl) T.z_sum (by decide +kernel) (pa_cons (pe_callTy (k_list (K := K)) (by rfl) T.z_list (by decide +kernel) (pa_cons (pv 1) pa_nil)) pa_nil)))))), ?_⟩
  refine s_ret (lcN L N pre.all pre.ne pre.l8 pre.hN (fun j => nD (col L j).sum) kn (fun Q q => t_var rfl (q _ _ (Same.refl _) hd)) (fun _ => rfl) (fun j hj x H1 S1 s1 kn1 dx hS ho Q q => ?_) fun D H1 ys hD s1 hd1 h1 => q _ _ s1 ?_)
  · refine t_cb1 (t_cb1 (t_var rfl (list_d kn1 dx rfl fun l xs hl ha h => ?_)))
    have ex := dpa_nats ha
    subst ex
    refine ⟨l, (col L j).map fun n : Nat => ((n : Nat) : Int), rfl, sqL (by rw [upd_same, List.map_map]; rfl), ?_⟩
    rw [sum_asI]
    exact q _ _ (same_new hl) (.int _)
  · have h2 : DpAll K (off S H1) ys ((sumL L N).map nD) := by unfold sumL; rw [List.map_map]; exact h1
    have ey := dpa_nats h2
    subst ey
    exact ⟨D, rfl, hD, hd1⟩
end
end K31

set_option maxRecDepth 100000
set_option maxHeartbeats 4000000
namespace K31
open PySem PySem.Spec PyProof.Rows L2 Kh
section
variable {P : Program} {w : World} {K : PySem.W.Frag} {mg : Str → Option Value} {base : Heap} {a : Nat → Addr} {fd : Nat → FuncData} {C : Addr} {tk : Nat → Tok}
theorem s_enum {iv : Nat} {a : Addr} {xs : List V} {s1 s2 : Nat} {tb : TS} {D : Ends} {σ : L2.St} {H : Hp} (hi : σ[iv]? = some (some (.ref a))) (hs : SqL K H a xs) (Pv : Nat → L2.St → Hp → Prop) (h0 : Pv 0 σ H) (hG : ∀ i σ' H', Pv i σ' H' → SqL K H' a xs)
    (hst : ∀ i x σ' H' H'', i < xs.length → xs[i]? = some x → Pv i σ' H' → Same H' H'' → tb { D with nx := Pv (i + 1), ct := Pv (i + 1), bk := D.nx } ((σ'.set s1 (some (.int (i : Nat)))).set s2 (some x)) H'') (hd : ∀ σ' H', Pv xs.length σ' H' → D.nx σ' H') :
    tFor (iEnum K (tCons (tVar iv) tNil)) (gTup K 2 (gCons (gName s1) (gCons (gName s2) gNil))) tb D σ H := by
  unfold tFor iEnum
  refine a_cons (t_var hi (a_nil ?_))
  refine ⟨a, xs, rfl, hs, for_it (walk_enum (K := K) (a := a) (xs := xs)) Pv h0 (fun i σ' H' _ p => hG i σ' H' p) (fun i x σ' H' H'' hi p y => ?_) hd⟩
  obtain ⟨T0, x1, y1, rfl, hT, rfl, hx, hy⟩ := y
  cases hx
  refine ⟨T0, [_, y1], rfl, sqT upd_same, rfl, _, [y1], rfl, y1, [], rfl, rfl, ?_⟩
  exact hst i y1 σ' H' _ hi hy p (same_new hT)
theorem s_asgg {te : TE} {g : TG} {D : Ends} {σ : L2.St} {H : Hp} (h : te σ H fun v H1 => g v σ H1 D.nx) : tAsg te g D σ H := h
def rowc (one other : List Nat) (x j q : Nat) : Nat := Su j fun y => if x + y = q then one.getD x 0 * other.getD y 0 else 0
def Fc (one other : List Nat) (i j q : Nat) : Nat := Su i (fun x => rowc one other x other.length q) + rowc one other i j q
def Fl (one other : List Nat) (N i j : Nat) : List Nat := (List.range N).map (Fc one other i j)
theorem Fc_next (one other : List Nat) (i q : Nat) : Fc one other (i + 1) 0 q = Fc one other i other.length q := by
  unfold Fc; rw [Su_succ]; rfl
theorem Fc_step (one other : List Nat) (i j q : Nat) : Fc one other i (j + 1) q = Fc one other i j q + if i + j = q then one.getD i 0 * other.getD j 0 else 0 := by
  unfold Fc rowc; rw [Su_succ]; omega
theorem Fl_next (one other : List Nat) (N i : Nat) : Fl one other N (i + 1) 0 = Fl one other N i other.length := by
  unfold Fl; exact List.map_congr_left fun q _ => Fc_next one other i q
theorem Fl_end (one other : List Nat) (N : Nat) : Fl one other N one.length 0 = (List.range N).map (pconv one other) := by
  unfold Fl; exact List.map_congr_left fun q _ => Nat.add_zero _
theorem Fl_none (one other : List Nat) (N : Nat) : Fl one other N 0 0 = List.replicate N 0 := by
  unfold Fl
  refine List.ext_getElem (by simp) fun q h1 h2 => ?_
  rw [List.getElem_map, List.getElem_replicate]; rfl
theorem Fl_step {one other : List Nat} {N i j : Nat} (h : i + j < N) : (ivs (Fl one other N i j)).set (i + j) (.int (((Fc one other i j (i + j) + one.getD i 0 * other.getD j 0 : Nat)) : Int)) = ivs (Fl one other N i (j + 1)) := by
  refine List.ext_getElem (by simp [ivs, Fl]) fun q h1 h2 => ?_
  rw [List.getElem_set]
  simp only [ivs, Fl, List.getElem_map, List.getElem_range, Fc_step]
  by_cases e : i + j = q
  · rw [if_pos e, if_pos e, e]
  · rw [if_neg e, if_neg e]; rfl
def e2L (x : List Nat × List Nat) : List PyData := [nL x.1, nL x.2]
structure PreP (x : List Nat × List Nat) : Prop where
  l1 : x.1.length ≤ 100
  l2 : x.2.length ≤ 100
  ne : 1 ≤ x.1.length + x.2.length
  b1 : ∀ n ∈ x.1, n < 2 ^ 100
  b2 : ∀ n ∈ x.2, n < 2 ^ 100
def prodN (one other : List Nat) : List Nat := (List.range (one.length + other.length - 1)).map (pconv one other)
abbrev spProd (K : PySem.W.Frag) : Sp := spP K e2L PreP fun x => nL (prodN x.1 x.2)
theorem rep0 {k : Nat} : (List.replicate ((k : Nat) : Int).toNat [V.int 0]).flatten = ivs (List.replicate k 0) := by
  rw [Int.toNat_natCast]
  induction k with
  | zero => rfl
  | succ k ih => simp only [List.replicate_succ, List.flatten_cons]; rw [ih]; rfl
theorem ivs_at {m : List Nat} {j : Nat} (hj : j < m.length) : (ivs m)[j]? = some (.int ((m.getD j 0 : Nat) : Int)) := ivs_get rfl hj
theorem get_nD {m : List Nat} {j : Nat} (hj : j < m.length) : (m.map nD)[j]? = some (nD (m.getD j 0)) := by
  rw [List.getElem?_map, List.getElem?_eq_getElem hj, List.getD_eq_getElem?_getD, List.getElem?_eq_getElem hj]; rfl
theorem getD_lt {m : List Nat} {j B : Nat} (hB : 0 < B) (h : ∀ n ∈ m, n < B) : m.getD j 0 < B := by
  rw [List.getD_eq_getElem?_getD]
  cases e : m[j]? with
  | none => exact hB
  | some n => exact h n (List.mem_of_getElem? e)
theorem ok_product_of (T : Txt K mg a fd C tk) : FnOk P w K mg base CX0 1 (a 25) (fd 25) ["one", "other"] (spProd K) := by
  refine T.F_product_of.ok sc_product_of (fun vs H Q E h => spP_len (fun _ => rfl) h) (fun cdv A outer s H vs Q E hr h => ?_)
  obtain ⟨S, ⟨one, other⟩, kn, hd, pre, q⟩ := h
  replace q : ∀ v H', Same H H' → Dp K (off S H') v (nL (prodN one other)) → Q v H' := q
  obtain - | ⟨h1, - | ⟨h2, ⟨⟩⟩⟩ := hd
  rename_i v1 v2
  replace h1 : Dp K (off S H) v1 (.list (one.map nD)) := h1
  replace h2 : Dp K (off S H) v2 (.list (other.map nD)) := h2
  have l1 : one.length ≤ 100 := pre.l1
  have l2 : other.length ≤ 100 := pre.l2
  have ne : 1 ≤ one.length + other.length := pre.ne
  have b1 : ∀ n ∈ one, n < 2 ^ 100 := pre.b1
  have b2 : ∀ n ∈ other, n < 2 ^ 100 := pre.b2
  clear pre
  obtain ⟨r1, xs1, rfl, sq1, ha1⟩ := list_at h1
  obtain ⟨r2, xs2, rfl, sq2, ha2⟩ := list_at h2
  have := dpa_nats ha1
  subst this
  have := dpa_nats ha2
  subst this
  refine ⟨_, (pss_cons (ps_set (i := 2) sc_product_of.nd rfl (Or.inl rfl) (pe_op op_rep (pe_lst (pa_cons pe_int pa_nil)) (pe_op op_sub (pe_op op_add (pe_callB (k_len (K := K)) (by rfl) T.z_len (by decide +kernel) (pa_cons (pv 0) pa_nil)) (pe_callB (k_len (K := K)) (by rfl) T.z_len (by decide +kernel) (pa_cons (pv 1) pa_nil))) pe_int)))
      (pss_cons (ps_for PassesOwn.never rfl (pi_enum (by rfl) T.z_enumerate (pa_cons (pv 0) pa_nil)) (pg_tup rfl (pgs_cons (pg_name (i := 3) sc_product_of.nd rfl (Or.inl rfl)) (pgs_cons (pg_name (i := 4) sc_product_of.nd rfl (Or.inl rfl)) pgs_nil)))
        (pss_one (ps_for PassesOwn.never rfl (pi_enum (by rfl) T.z_enumerate (pa_cons (pv 1) pa_nil)) (pg_tup rfl (pgs_cons (pg_name (i := 5) sc_product_of.nd rfl (Or.inl rfl)) (pgs_cons (pg_name (i := 6) sc_product_of.nd rfl (Or.inl rfl)) pgs_nil)))
          (pss_one (ps_asg (pe_op op_add (pe_ix (k_ix (K := K)) (pv 2) (pe_op op_add (pv 3) (pv 5)) (fun _ _ => rfl)) (pe_op op_mulW (pv 4) (pv 6))) (pg_sub (pv 2) (pe_op op_add (pv 3) (pv 5)) set_list))))))
      (pss_one (ps_ret (pv 2))))), ?_⟩
  refine s_seq (s_set (t_op (t_lst (a_cons (t_c (a_nil ⟨le1, fun p1 hp1 => ?_⟩))))))
  have sp1 := same_new (o := HO.lst [V.int 0]) hp1
  have hp1' : (upd H p1 (.lst [V.int 0])) p1 = some (.lst [V.int 0]) := upd_same
  generalize upd H p1 (.lst [V.int 0]) = H1 at *
  refine t_op (t_op (t_cb1 (t_var rfl (len_d off_sub (dp_same (off_same sp1) _ _ h1) rfl (t_cb1 (t_var rfl (len_d off_sub (dp_same (off_same sp1) _ _ h2) rfl ⟨_, _, rfl, rfl, t_c ⟨_, _, rfl, rfl, ?_⟩⟩)))))))
  have eN : (((one.map nD).length : Nat) : Int) + (((other.map nD).length : Nat) : Int) - 1 = ((one.length + other.length - 1 : Nat) : Int) := by
    rw [List.length_map, List.length_map]; omega
  generalize hN : one.length + other.length - 1 = N at *
  refine ⟨p1, ((N : Nat) : Int), _, rfl, congrArg V.int eN, hp1', by omega, by omega, ?_, fun D hD => nx_of ?_⟩
  · rw [Int.toNat_natCast]
    show 1 * N ≤ sizeLine
    exact Nat.le_trans (by omega) (show 200 ≤ sizeLine by decide)
  rw [rep0]
  have s2 := sp1.trans (same_new (o := HO.lst (ivs (List.replicate N 0))) hD)
  have hD2 : (upd H1 D (.lst (ivs (List.replicate N 0)))) D = some (.lst (ivs (List.replicate N 0))) := upd_same
  generalize upd H1 D (.lst (ivs (List.replicate N 0))) = H2 at *
  have hDn := sp1.free hD
  have nS : ¬ S D := kn.new hDn
  have seq1 : ∀ {H'}, Same H H' → SqL K H' r1 (ivs one) := fun s => (off_sub.trans s).seq sq1
  have seq2 : ∀ {H'}, Same H H' → SqL K H' r2 (ivs other) := fun s => (off_sub.trans s).seq sq2
  refine s_seq (s_enum rfl (seq1 s2) (fun i σ' H' => ∃ x3 x4 x5 x6, σ' = [some (.ref r1), some (.ref r2), some (.ref D), x3, x4, x5, x6] ∧ Same H H' ∧ H' D = some (.lst (ivs (Fl one other N i 0)))) ⟨_, _, _, _, rfl, s2, by rw [Fl_none]; exact hD2⟩ (fun i σ' H' ⟨_, _, _, _, _, s, _⟩ => seq1 s) ?_ ?_)
  · rintro i x σ' H3 H4 hi hx ⟨x3, x4, x5, x6, rfl, s3, hD3⟩ s4
    have hi' : i < one.length := by simpa [ivs] using hi
    rw [ivs_at hi'] at hx
    cases hx
    have hD4 := s4 _ _ hD3
    have s34 := s3.trans s4
    refine s_enum rfl (seq2 s34) (fun j σ' H' => ∃ x5 x6, σ' = [some (.ref r1), some (.ref r2), some (.ref D), some (.int (i : Nat)), some (.int ((one.getD i 0 : Nat) : Int)), x5, x6] ∧ Same H H' ∧ H' D = some (.lst (ivs (Fl one other N i j)))) ⟨_, _, rfl, s34, hD4⟩ (fun i σ' H' ⟨_, _, _, s, _⟩ => seq2 s) ?_ ?_
    · rintro j x σ' H5 H6 hj hx ⟨x5, x6, rfl, s5, hD5⟩ s6
      have hj' : j < other.length := by simpa [ivs] using hj
      rw [ivs_at hj'] at hx
      cases hx
      have hD6 := s6 _ _ hD5
      have s56 := s5.trans s6
      have dD : Dp K (off S H6) (.ref D) (.list ((Fl one other N i j).map nD)) := dp_lst nS hD6 (nats_dpa _)
      have hij : i + j < N := by omega
      have hl : (Fl one other N i j).length = N := by unfold Fl; simp
      have gv : (Fl one other N i j).getD (i + j) 0 = Fc one other i j (i + j) := by unfold Fl; rw [getD_map, if_pos hij]
      refine s_asgg (t_op (t_op (t_var rfl (t_op (t_var rfl (t_var rfl ⟨_, _, rfl, rfl, ?_⟩))))))
      refine ix_d (i := i + j) off_sub dD rfl (get_nD (by omega)) fun u du => ?_
      cases du
      rw [gv]
      refine t_op (t_var rfl (t_var rfl ⟨_, _, rfl, rfl, wide_mul (nat_bits (getD_lt (by decide) b1)) (nat_bits (getD_lt (by decide) b2)) (by decide) (by decide) (by decide), ⟨_, _, rfl, rfl, ?_⟩⟩))
      refine t_var rfl (t_op (t_var rfl (t_var rfl ⟨_, _, rfl, rfl, ?_⟩)))
      refine ⟨D, ivs (Fl one other N i j), _, i + j, rfl, rfl, hD6, ?_, nx_of ⟨_, _, rfl, smut s56 hDn, ?_⟩⟩
      · show ixN (ivs (Fl one other N i j)).length (((i : Nat) : Int) + ((j : Nat) : Int)) = some (i + j)
        unfold ixN
        rw [if_pos (by omega), if_pos (by rw [show (ivs (Fl one other N i j)).length = N by simp [ivs, hl]]; omega)]
        congr 1
      · rw [upd_same, ← Fl_step hij]
        rfl
    · rintro σ' H5 ⟨x5, x6, rfl, s5, hD5⟩
      rw [show (ivs other).length = other.length by simp [ivs], ← Fl_next] at hD5
      exact ⟨_, _, _, _, rfl, s5, hD5⟩
  · rintro σ' H3 ⟨x3, x4, x5, x6, rfl, s3, hD3⟩
    rw [show (ivs one).length = one.length by simp [ivs], Fl_end] at hD3
    refine nx_of (s_ret (t_var rfl (q _ _ s3 ?_)))
    unfold nL prodN
    rw [hN]
    exact dp_lst nS hD3 (nats_dpa _)
end
end K31

set_option maxRecDepth 100000
set_option maxHeartbeats 4000000
namespace K31
open PySem PySem.Spec PyProof.Rows L2 Kh
theorem cL_le (L : List (List Nat)) (j : Nat) : cL L j ≤ L.length := List.length_filter_le _ _
def BS (ps : List Kh.T) : List (List Nat) := (List.range (ps.length + 1)).map fun q => sz (ps.flatMap lv).length (Gq ps q)
theorem BS_len (ps : List Kh.T) : (BS ps).length = ps.length + 1 := by unfold BS; simp
theorem BS_get {ps : List Kh.T} {q : Nat} (h : q < (BS ps).length) : (BS ps)[q] = sz (ps.flatMap lv).length (Gq ps q) := by
  simp only [BS, List.getElem_map, List.getElem_range]
theorem BS_nil : BS [] = [[1]] := by decide
theorem BS_mem {ps : List Kh.T} {m : List Nat} (h : m ∈ BS ps) : ∃ q, q < ps.length + 1 ∧ m = sz (ps.flatMap lv).length (Gq ps q) := by
  obtain ⟨q, hq, rfl⟩ := List.mem_map.mp h
  exact ⟨q, List.mem_range.mp hq, rfl⟩
theorem sz_small {n : Nat} {L : List (List Nat)} {c : Nat} (h : c ∈ sz n L) : c ≤ L.length := by
  obtain ⟨j, _, rfl⟩ := List.mem_map.mp h
  exact cL_le L j
theorem gq_few {ps : List Kh.T} (q : Nat) : (Gq ps q).length ≤ 2 ^ (ps.flatMap lv).length := by
  rw [← lists_len]; exact List.length_filter_le _ _
theorem at_few {t : Kh.T} : (At t).length ≤ 2 ^ (lv t).length := by rw [← lists_len]; exact List.length_filter_le _ _
theorem bt_few {t : Kh.T} : (Bt t).length ≤ 2 ^ (lv t).length := by rw [← lists_len]; exact List.length_filter_le _ _
theorem prod_len (n n' : Nat) (X Y : List (List Nat)) : (prodN (sz n X) (sz n' Y)).length = n + n' + 1 := by
  unfold prodN; rw [List.length_map, List.length_range, sz_len, sz_len]; omega
theorem prod_sz {n n' : Nat} {X Y : List (List Nat)} (hX : ∀ a ∈ X, a.length ≤ n) (hY : ∀ b ∈ Y, b.length ≤ n') {j : Nat} (hj : j < n + n' + 1) : (prodN (sz n X) (sz n' Y)).getD j 0 = cP X Y j := by
  unfold prodN; rw [getD_map, sz_len, sz_len, if_pos (by omega), conv_sz hX hY]
theorem two_sum (x y : List Nat) (N : Nat) : sumL [x, y] N = (List.range N).map fun j => x.getD j 0 + y.getD j 0 := by
  unfold sumL col
  refine List.map_congr_left fun j _ => ?_
  simp
theorem rep_getD (N j : Nat) : (List.replicate N 0).getD j 0 = 0 := by
  rw [List.getD_eq_getElem?_getD, List.getElem?_replicate]; split <;> rfl
theorem cP_nil (Y : List (List Nat)) (j : Nat) : cP [] Y j = 0 := by
  unfold cP
  induction Y with
  | nil => rfl
  | cons b Y ih => rw [List.map_cons, List.sum_cons, ih]; rfl
theorem flat_snoc (ps : List Kh.T) (p : Kh.T) : (ps ++ [p]).flatMap lv = ps.flatMap lv ++ lv p := by rw [List.flatMap_append]; simp
theorem BS_step {ps : List Kh.T} {p : Kh.T} (nd : ((ps ++ [p]).flatMap lv).Nodup) :
    let N := (ps.flatMap lv).length + (lv p).length + 1
    (([List.replicate N 0] ++ (BS ps).map fun m => prodN m (sz (lv p).length (At p))).zip (((BS ps).map fun m => prodN m (sz (lv p).length (Bt p))) ++ [List.replicate N 0])).map (fun z : List Nat × List Nat => sumL [z.1, z.2] N) = BS (ps ++ [p]) := by
  intro N
  refine List.ext_getElem (by simp [BS_len]) fun q h1 h2 => ?_
  rw [BS_len, List.length_append] at h2
  rw [BS_get, List.getElem_map, List.getElem_zip]
  have e1 : ∀ j, j < N → (([List.replicate N 0] ++ (BS ps).map fun m => prodN m (sz (lv p).length (At p)))[q]'(by simp [BS_len]; simp at h2; omega)).getD j 0 = if q = 0 then 0 else cP (Gq ps (q - 1)) (At p) j := fun j hj => by
    cases q with
    | zero => exact rep_getD N j
    | succ q =>
      rw [if_neg (by omega)]
      rw [List.getElem_append_right (by simp)]
      simp only [List.length_singleton, Nat.add_sub_cancel, List.getElem_map]
      rw [BS_get, prod_sz gq_small at_small hj]
  have e2 : ∀ j, j < N → ((((BS ps).map fun m => prodN m (sz (lv p).length (Bt p))) ++ [List.replicate N 0])[q]'(by simp [BS_len]; simp at h2; omega)).getD j 0 = cP (Gq ps q) (Bt p) j := fun j hj => by
    by_cases hq : q < ps.length + 1
    · rw [List.getElem_append_left (by rw [List.length_map, BS_len]; exact hq)]
      simp only [List.getElem_map]
      rw [BS_get, prod_sz gq_small bt_small hj]
    · have : q = ps.length + 1 := by simp at h2; omega
      subst this
      rw [gq_over, cP_nil, List.getElem_append_right (by rw [List.length_map, BS_len]; exact Nat.le_refl _)]
      simp only [List.getElem_singleton]
      exact rep_getD N j
  rw [two_sum]
  unfold sz
  rw [flat_snoc, List.length_append]
  refine List.map_congr_left fun j hj => ?_
  have hj := List.mem_range.mp hj
  rw [gq_step nd q j]
  exact congr (congrArg HAdd.hAdd (e1 j hj)) (e2 j hj)
theorem sumL_by {ps : List Kh.T} (qs : List Nat) (nd : qs.Nodup) : sumL (qs.map fun q => sz (ps.flatMap lv).length (Gq ps q)) ((ps.flatMap lv).length + 1) = sz (ps.flatMap lv).length ((lists (ps.flatMap lv)).filter fun m => decide (cnt m ps ∈ qs)) := by
  unfold sumL
  conv => rhs; unfold sz
  refine List.map_congr_left fun j hj => ?_
  have hj := List.mem_range.mp hj
  rw [← cL_by _ _ qs nd j]
  unfold col
  rw [List.map_map]
  congr 1
  refine List.map_congr_left fun q _ => ?_
  exact sz_get _ _ _ hj
theorem cnt_le' (m : List Nat) (ps : List Kh.T) : cnt m ps ≤ ps.length := List.length_filter_le _ _
theorem BS_drop {b : Bool} {k : Nat} {ps : List Kh.T} (h : k ≤ ps.length) : sumL ((BS ps).drop k) ((ps.flatMap lv).length + 1) = sz (lv (.gate b k ps)).length (At (.gate b k ps)) := by
  unfold BS
  rw [← List.map_drop, sumL_by _ (List.Nodup.sublist (List.drop_sublist _ _) List.nodup_range)]
  unfold At
  rw [lv_gate]
  congr 1
  refine List.filter_congr fun m _ => ?_
  rw [st_gate]
  have := cnt_le' m ps
  refine decide_eq_decide.mpr ?_
  rw [List.range_eq_range', List.drop_range', List.mem_range'_1]
  show _ ↔ k ≤ cnt m ps
  omega
theorem BS_take {b : Bool} {k : Nat} {ps : List Kh.T} (h : k ≤ ps.length) : sumL ((BS ps).take k) ((ps.flatMap lv).length + 1) = sz (lv (.gate b k ps)).length (Bt (.gate b k ps)) := by
  unfold BS
  rw [← List.map_take, sumL_by _ (List.Nodup.sublist (List.take_sublist _ _) List.nodup_range)]
  unfold Bt
  rw [lv_gate]
  congr 1
  refine List.filter_congr fun m _ => ?_
  rw [st_gate, ← decide_not]
  refine decide_eq_decide.mpr ?_
  rw [List.take_range, List.mem_range]
  show _ ↔ ¬ (k ≤ cnt m ps)
  omega
end K31

set_option maxRecDepth 100000
set_option maxHeartbeats 4000000
namespace K31
open PySem PySem.Spec PyProof.Rows L2 Kh
section
variable {P : Program} {w : World} {K : PySem.W.Frag} {mg : Str → Option Value} {base : Heap} {a : Nat → Addr} {fd : Nat → FuncData} {C : Addr} {tk : Nat → Tok}
def szs (t : Kh.T) : PyData := .tuple [nL (sz (lv t).length (At t)), nL (sz (lv t).length (Bt t))]
structure PreZ (d : Nat) (t : Kh.T) : Prop where
  sm : Sm t
  dp : dep t < d
  nd : (lv t).Nodup
  l7 : (lv t).length ≤ 7
def NewZ (H H' : Hp) (v : V) (t : Kh.T) : Prop := ∃ p l1 l2, v = .ref p ∧ H' p = some (.tup [l1, l2]) ∧ NewL H H' l1 (sz (lv t).length (At t)) ∧ NewL H H' l2 (sz (lv t).length (Bt t)) ∧ H p = none
theorem NewZ.dp {S : Addr → Prop} {H H' : Hp} {v : V} {t : Kh.T} (h : NewZ H H' v t) (kn : Kn S H) : Dp K (off S H') v (szs t) := by
  obtain ⟨p, l1, l2, rfl, hp, h1, h2, h0⟩ := h
  exact dp_tup (kn.new h0) hp (.cons (h1.dp kn) (.cons (h2.dp kn) .nil))
def spSizes (K : PySem.W.Frag) (d : Nat) : Sp := fun vs H Q _ => ∃ (S : Addr → Prop) (t : Kh.T) (v : V), vs = [v] ∧ Kn S H ∧ Dp K (off S H) v (tD t) ∧ PreZ d t ∧ ∀ v H', Same H H' → NewZ H H' v t → Q v H'
theorem pow7 {n : Nat} (h : n ≤ 7) : 2 ^ n ≤ 128 := Nat.pow_le_pow_right (by omega) h
theorem sz_leaf (n : Nat) : sz (lv (.leaf n)).length (At (.leaf n)) = [0, 1] ∧ sz (lv (.leaf n)).length (Bt (.leaf n)) = [1, 0] := by
  have e : lists [n] = [[], [n]] := rfl
  have s0 : st [] (.leaf n) = false := by rw [st_leaf]; rfl
  have s1 : st [n] (.leaf n) = true := by rw [st_leaf]; simp
  unfold At Bt
  rw [lv_leaf, e]
  simp only [List.filter_cons, List.filter_nil, s0, s1]
  exact ⟨rfl, rfl⟩
theorem pre_part {d : Nat} {b : Bool} {k : Nat} {ps : List Kh.T} (h : PreZ (d + 1) (.gate b k ps)) : ∀ p ∈ ps, PreZ d p := fun p hp => by
  have nd := h.nd
  have l7 := h.l7
  rw [lv_gate] at nd l7
  refine ⟨h.sm.parts p hp, dep_lt h.dp p hp, ?_, Nat.le_trans (lv_part hp) l7⟩
  clear h l7
  induction ps with
  | nil => cases hp
  | cons x ps ih =>
    rw [List.flatMap_cons] at nd
    obtain ⟨n1, n2, n3⟩ := List.nodup_append.mp nd
    rcases List.mem_cons.mp hp with e | e
    · subst e; exact n1
    · exact ih e n2
theorem take_nodup {ps : List Kh.T} (nd : (ps.flatMap lv).Nodup) (i : Nat) : ((ps.take i).flatMap lv).Nodup := by
  have : ps.flatMap lv = (ps.take i).flatMap lv ++ (ps.drop i).flatMap lv := by rw [← List.flatMap_append, List.take_append_drop]
  rw [this] at nd
  exact (List.nodup_append.mp nd).1
theorem g_tup2 {i j : Nat} {v : V} {σ : L2.St} {H1 : Hp} {S0 : Addr → Prop} {d1 d2 : PyData} {Q : L2.St → Hp → Prop} (hd : Dp K (off S0 H1) v (.tuple [d1, d2]))
    (k : ∀ x y, Dp K (off S0 H1) x d1 → Dp K (off S0 H1) y d2 → Q ((σ.set i (some x)).set j (some y)) H1) : gTup K 2 (gCons (gName i) (gCons (gName j) gNil)) v σ H1 Q := by
  obtain ⟨r, xs, rfl, hs, ha⟩ := tup_at hd
  obtain - | ⟨h1, - | ⟨h2, ⟨⟩⟩⟩ := ha
  rename_i x y
  exact ⟨r, [x, y], rfl, same_t off_sub hs, rfl, x, [y], rfl, y, [], rfl, rfl, k x y h1 h2⟩
theorem BS_head (ps : List Kh.T) : (BS ps)[0]? = some (sz (ps.flatMap lv).length (Gq ps 0)) := by
  rw [List.getElem?_eq_getElem (by rw [BS_len]; omega), BS_get]
theorem BS_all {ps : List Kh.T} (h : (ps.flatMap lv).length ≤ 7) : ∀ m ∈ BS ps, m.length = (ps.flatMap lv).length + 1 ∧ ∀ n ∈ m, n < 2 ^ 100 := fun m hm => by
  obtain ⟨q, _, rfl⟩ := BS_mem hm
  refine ⟨sz_len _ _, fun n hn => ?_⟩
  have h1 := sz_small hn
  have h2 := gq_few (ps := ps) q
  have h3 := pow7 h
  have h4 : 128 < 2 ^ 100 := by decide
  omega
theorem at_all {t : Kh.T} (h : (lv t).length ≤ 7) : ∀ n ∈ sz (lv t).length (At t), n < 2 ^ 100 := fun n hn => by
  have h1 := sz_small hn
  have h2 := at_few (t := t)
  have h3 := pow7 h
  have h4 : 128 < 2 ^ 100 := by decide
  omega
theorem bt_all {t : Kh.T} (h : (lv t).length ≤ 7) : ∀ n ∈ sz (lv t).length (Bt t), n < 2 ^ 100 := fun n hn => by
  have h1 := sz_small hn
  have h2 := bt_few (t := t)
  have h3 := pow7 h
  have h4 : 128 < 2 ^ 100 := by decide
  omega
theorem rep_d {S : Addr → Prop} {H : Hp} {p : Addr} {n : Int} {N : Nat} {Q : VK} (kn : Kn S H) (hp : H p = some (.lst [V.int 0])) (e : n = (N : Nat)) (hN : N ≤ 1000) (q : ∀ u H', Same H H' → Dp K (off S H') u (nL (List.replicate N 0)) → Q u H') : rRep (.ref p) (.int n) H Q := by
  subst e
  refine ⟨p, _, _, rfl, rfl, hp, by omega, by omega, ?_, fun D hD => q _ _ (same_new hD) ?_⟩
  · rw [Int.toNat_natCast]
    show 1 * N ≤ sizeLine
    exact Nat.le_trans (by omega) (show 1000 ≤ sizeLine by decide)
  · rw [rep0]
    exact dp_newL kn hD (nats_dpa _)
def zerosD (N : Nat) : PyData := nL (List.replicate N 0)
theorem ok_plain_sizes (T : Txt K mg a fd C tk) : ∀ d, FnOk P w K mg base CX0 (d + 2) (a 27) (fd 27) ["shape"] (spSizes K d)
  | 0 => fn_none fun _ _ _ _ h => by
    obtain ⟨_, x, _, _, _, _, h, _⟩ := h
    exact Nat.not_lt_zero _ h.dp
  | d + 1 => by
    have G_plain_sizes := ok_plain_sizes T d
    have G_is_integer : FnOk P w K mg base CX0 1 (a 0) (fd 0) ["value"] (spIsInteger K) := ok_is_integer T
    have G_product_of := ok_product_of (P := P) (w := w) (base := base) T
    have G_sum_of := ok_sum_of (P := P) (w := w) (base := base) T
    refine T.F_plain_sizes.ok sc_plain_sizes (fun vs H Q E h => by obtain ⟨_, _, _, rfl, _⟩ := h; rfl) (fun cdv A outer s H vs Q E hr h => ?_)
    obtain ⟨S, t, v, rfl, kn, hd, pre, q⟩ := h
    replace hd : Dp K (off S H) v (tD t) := hd
    refine ⟨_, (pss_cons (ps_if (pt_val (pe_call G_is_integer (hr.mono (by omega)) (by rfl) T.m_is_integer T.F_is_integer.kp T.b_is_integer .nil pass0 (pa_cons (pv 0) pa_nil)))
        (pss_one (ps_ret (pe_tup (pa_cons (pe_lst (pa_cons pe_int (pa_cons pe_int pa_nil))) (pa_cons (pe_lst (pa_cons pe_int (pa_cons pe_int pa_nil))) pa_nil))))) pss_nil)
      (pss_cons (ps_set (i := 1) sc_plain_sizes.nd rfl (Or.inl rfl) (pe_lst (pa_cons (pe_lst (pa_cons pe_int pa_nil)) pa_nil)))
      (pss_cons (ps_for PassesOwn.never rfl (k_pi (K := K) (pe_ix (k_ix (K := K)) (pv 0) pe_int (fun _ _ => rfl))) (pg_name (i := 2) sc_plain_sizes.nd rfl (Or.inl rfl))
        (pss_cons (ps_asg (pe_call G_plain_sizes (hr.mono (by omega)) (by rfl) T.m_plain_sizes T.F_plain_sizes.kp T.b_plain_sizes .nil pass0 (pa_cons (pv 2) pa_nil)) (pg_tup rfl (pgs_cons (pg_name (i := 3) sc_plain_sizes.nd rfl (Or.inr rfl)) (pgs_cons (pg_name (i := 4) sc_plain_sizes.nd rfl (Or.inr rfl)) pgs_nil))))
        (pss_cons (ps_setLc (i := 5) (own := [("numbers", 8)]) (g := gName 8) (tt := tYes) rfl sc_plain_sizes.nd rfl rfl (sw_true rfl rfl rfl (by decide +kernel)) (k_pi (K := K) (pv 1)) (blkOk_by (own := [("numbers", 8)]) (N := plain_sizes_N) (sc := defScope plain_sizes_s) (by decide +kernel)) (fun _ _ _ _ _ => (pg_name (i := 8) sc_plain_sizes.nd rfl (Or.inl rfl))) (fun _ _ _ _ _ => pts_nil) (fun _ _ _ _ _ => (pe_call G_product_of (hr.mono (by omega)) (by rfl) T.m_product_of T.F_product_of.kp T.b_product_of .nil pass0 (pa_cons (pv 8) (pa_cons (pv 3) pa_nil)))))
        (pss_cons (ps_setLc (i := 6) (own := [("numbers", 8)]) (g := gName 8) (tt := tYes) rfl sc_plain_sizes.nd rfl rfl (sw_true rfl rfl rfl (by decide +kernel)) (k_pi (K := K) (pv 1)) (blkOk_by (own := [("numbers", 8)]) (N := plain_sizes_N) (sc := defScope plain_sizes_s) (by decide +kernel)) (fun _ _ _ _ _ => (pg_name (i := 8) sc_plain_sizes.nd rfl (Or.inl rfl))) (fun _ _ _ _ _ => pts_nil) (fun _ _ _ _ _ => (pe_call G_product_of (hr.mono (by omega)) (by rfl) T.m_product_of T.F_product_of.kp T.b_product_of .nil pass0 (pa_cons (pv 8) (pa_cons (pv 4) pa_nil)))))
        (pss_cons (ps_set (i := 7) sc_plain_sizes.nd rfl (Or.inl rfl) (pe_op op_rep (pe_lst (pa_cons pe_int pa_nil)) (pe_callB (k_len (K := K)) (by rfl) T.z_len (by decide +kernel) (pa_cons (pe_ix (k_ix (K := K)) (pv 6) pe_int (fun _ _ => rfl)) pa_nil))))
        (pss_one (ps_setLc (i := 1) (own := [("one", 9), ("other", 10)]) (g := gTup K 2 (gCons (gName 9) (gCons (gName 10) gNil))) (tt := tYes) rfl sc_plain_sizes.nd rfl rfl (sw_true rfl rfl rfl (by decide +kernel)) (pi_zip (by rfl) T.z_zip (pa_cons (pe_op (k_catS (K := K)) (pe_lst (pa_cons (pv 7) pa_nil)) (pv 5)) (pa_cons (pe_op (k_catS (K := K)) (pv 6) (pe_lst (pa_cons (pv 7) pa_nil))) pa_nil))) (blkOk_by (own := [("one", 9), ("other", 10)]) (N := plain_sizes_N) (sc := defScope plain_sizes_s) (by decide +kernel)) (fun _ _ _ _ _ => (pg_tup rfl (pgs_cons (pg_name (i := 9) sc_plain_sizes.nd rfl (Or.inl rfl)) (pgs_cons (pg_name (i := 10) sc_plain_sizes.nd rfl (Or.inl rfl)) pgs_nil)))) (fun _ _ _ _ _ => pts_nil) (fun _ _ _ _ _ => (pe_call G_sum_of (hr.mono (by omega)) (by rfl) T.m_sum_of T.F_sum_of.kp T.b_sum_of .nil pass0 (pa_cons (pe_lst (pa_cons (pv 9) (pa_cons (pv 10) pa_nil))) pa_nil))))))))))
      (pss_one (ps_ret (pe_tup (pa_cons (pe_call G_sum_of (hr.mono (by omega)) (by rfl) T.m_sum_of T.F_sum_of.kp T.b_sum_of .nil pass0 (pa_cons (pe_slice (k_sl (K := K)) (pv 1) (po_some (pe_ix (k_ix (K := K)) (pv 0) pe_int (fun _ _ => rfl))) po_none) pa_nil)) (pa_cons (pe_call G_sum_of (hr.mono (by omega)) (by rfl) T.m_sum_of T.F_sum_of.kp T.b_sum_of .nil pass0 (pa_cons (pe_slice (k_sl (K := K)) (pv 1) po_none (po_some (pe_ix (k_ix (K := K)) (pv 0) pe_int (fun _ _ => rfl)))) pa_nil)) pa_nil)))))))), ?_⟩
    cases t with
    | leaf n =>
      rw [tD_leaf] at hd
      refine s_seq (s_if (b_val (t_call1 (t_var rfl (spP_bl off_sub _ (.cons hd .nil) trivial rfl fun H1 s1 => ⟨_, rfl, ifT rfl (s_ret (t_tup (a_cons (t_lst (a_cons (t_c (a_cons (t_c (a_nil ⟨le2, fun p1 hp1 => a_cons (t_lst (a_cons (t_c (a_cons (t_c (a_nil ⟨le2, fun p2 hp2 => a_nil ⟨le2, fun p hp => ?_⟩⟩))))))⟩)))))))))⟩)))))
      have kn1 := kn.same s1
      have sa := same_new (o := HO.lst [V.int 0, V.int 1]) hp1
      have sb := same_new (o := HO.lst [V.int 1, V.int 0]) hp2
      have sc := same_new (o := HO.tup [V.ref p1, V.ref p2]) hp
      have h1 : (upd (upd H1 p1 (.lst [V.int 0, V.int 1])) p2 (.lst [V.int 1, V.int 0])) p1 = some (.lst [V.int 0, V.int 1]) := sb _ _ upd_same
      have h2 : (upd (upd H1 p1 (.lst [V.int 0, V.int 1])) p2 (.lst [V.int 1, V.int 0])) p2 = some (.lst [V.int 1, V.int 0]) := upd_same
      refine q _ _ (s1.trans (sa.trans (sb.trans sc))) ⟨p, _, _, rfl, upd_same, ⟨p1, rfl, s1.free hp1, ?_⟩, ⟨p2, rfl, (s1.trans sa).free hp2, ?_⟩, (s1.trans (sa.trans sb)).free hp⟩
      · rw [(sz_leaf n).1]; exact sc _ _ h1
      · rw [(sz_leaf n).2]; exact sc _ _ h2
    | gate b k ps =>
      have prep := pre_part pre
      have nd := pre.nd
      have l7 := pre.l7
      have wf := (wf_gate b k ps).mp pre.sm.1
      rw [lv_gate] at nd l7
      rw [tD_gate] at hd
      have lps := len_lv ps wf.2.2
      refine s_seq (s_if (b_val (t_call1 (t_var rfl (spP_bl off_sub _ (.cons hd .nil) trivial rfl fun H1 s1 => ⟨_, rfl, ifF rfl (s_next ?_)⟩)))))
      have kn1 := kn.same s1
      have hd1 := dp_same (off_same s1) _ _ hd
      refine s_seq (s_set (t_lst (a_cons (t_lst (a_cons (t_c (a_nil ⟨le1, fun p1 hp1 => a_nil ⟨le1, fun p2 hp2 => nx_of ?_⟩⟩)))))))
      have sp1 := same_new (o := HO.lst [V.int 1]) hp1
      have d1 := dp_newL (K := K) kn1 (ds := [.int (1 : Nat)]) hp1 (.cons (.int _) .nil)
      have d2 := dp_newL (K := K) (kn1.same sp1) (ds := [.list [.int (1 : Nat)]]) hp2 (.cons d1 .nil)
      have s2 := sp1.trans (same_new (o := HO.lst [V.ref p1]) hp2)
      generalize upd (upd H1 p1 (.lst [V.int 1])) p2 (.lst [V.ref p1]) = H2 at *
      have kn2 := kn1.same s2
      have hd2 := dp_same (off_same s2) _ _ hd1
      have s12 := s1.trans s2
      refine s_seq (forM b ps tD kn2 (fun Q q => t_op (t_var rfl (t_c (ix_d (i := 2) off_sub hd2 rfl rfl fun u du => q u _ (Same.refl _) du)))) fun H3 s3 kn3 => ?_)
      have hd3 := dp_same (off_same s3) _ _ hd2
      have d3 := dp_same (off_same s3) _ _ d2
      refine ⟨fun i σ' H' => ∃ (u : V) (x2 x3 x4 x5 x6 x7 x8 x9 x10 : Option V), σ' = [some v, some u, x2, x3, x4, x5, x6, x7, x8, x9, x10] ∧ Same H3 H' ∧ Dp K (off S H') u (nLL (BS (ps.take i))), ⟨_, _, _, _, _, _, _, _, _, _, rfl, Same.refl _, by rw [List.take_zero, BS_nil]; exact d3⟩, fun i σ' H' ⟨_, _, _, _, _, _, _, _, _, _, _, s, _⟩ => off_sub.trans s, ?_, ?_⟩
      · rintro i p x σ' H4 pi hi pm dx ⟨u, x2, x3, x4, x5, x6, x7, x8, x9, x10, rfl, s4, d4⟩
        have kn4 := kn3.same s4
        have dx4 := dp_same (off_same s4) _ _ dx
        refine g_name (s_seq (s_asgg (t_call1 (t_var rfl ⟨S, p, x, rfl, kn4, dx4, prep p pm, fun m H5 s5 dm => g_tup2 (dm.dp kn4) fun vA vB dA dB => nx_of ?_⟩))))
        have kn5 := kn4.same s5
        have d5 := dp_same (off_same s5) _ _ d4
        generalize hpi : ps.take i = pi' at *
        have fl : (pi'.flatMap lv).length ≤ 7 := by rw [← hpi]; exact Nat.le_trans (flat_take_le ps i) l7
        have lpi : pi'.length ≤ 7 := by rw [← hpi, List.length_take]; omega
        have all := BS_all fl
        have lp := (prep p pm).l7
        generalize hA : sz (lv p).length (At p) = sA at *
        generalize hB : sz (lv p).length (Bt p) = sB at *
        have lA : sA.length = (lv p).length + 1 := by rw [← hA, sz_len]
        have lB : sB.length = (lv p).length + 1 := by rw [← hB, sz_len]
        have aA : ∀ n ∈ sA, n < 2 ^ 100 := by rw [← hA]; exact at_all lp
        have aB : ∀ n ∈ sB, n < 2 ^ 100 := by rw [← hB]; exact bt_all lp
        refine s_seq (s_set (lcM false (BS pi') nL (fun m => nL (prodN m sA)) kn5 (fun Q q => t_var rfl (q _ _ (Same.refl _) d5)) (by rw [BS_len]; omega) (fun _ => rfl) (fun m hm y H6 S6 s6 kn6 dy hS ho Q q => t_call2 (t_var rfl (t_var rfl ⟨S6, (m, sA), kn6, .cons dy (.cons (dp_same ho _ _ dA) .nil), ⟨by show m.length ≤ 100; rw [(all m hm).1]; omega, by show sA.length ≤ 100; omega, by show 1 ≤ m.length + sA.length; omega, (all m hm).2, aA⟩, fun u H7 s7 d7 => q u H7 s7 d7⟩))) fun D6 H6 ys hD6 s6 hd6 d6 => nx_of ?_))
        refine s_seq (s_set (lcM false (BS pi') nL (fun m => nL (prodN m sB)) (kn5.same s6) (fun Q q => t_var rfl (q _ _ (Same.refl _) (dp_same (off_same s6) _ _ d5))) (by rw [BS_len]; omega) (fun _ => rfl) (fun m hm y H7 S7 s7 kn7 dy hS ho Q q => t_call2 (t_var rfl (t_var rfl ⟨S7, (m, sB), kn7, .cons dy (.cons (dp_same ho _ _ (dp_same (off_same s6) _ _ dB)) .nil), ⟨by show m.length ≤ 100; rw [(all m hm).1]; omega, by show sB.length ≤ 100; omega, by show 1 ≤ m.length + sB.length; omega, (all m hm).2, aB⟩, fun u H7 s7 d7 => q u H7 s7 d7⟩))) fun D7 H7 ys7 hD7 s7 hd7 d7 => nx_of ?_))
        have kn7 := (kn5.same s6).same s7
        have d67 := dp_same (off_same s7) _ _ d6
        have s57 := s6.trans s7
        clear hd6 hd7 hD6 hD7
        generalize hN : (pi'.flatMap lv).length + (lv p).length + 1 = N at *
        have lenP : ∀ m ∈ BS pi', ∀ s, s.length = (lv p).length + 1 → (prodN m s).length = N := fun m hm s hs => by
          unfold prodN
          rw [List.length_map, List.length_range, (all m hm).1, hs]; omega
        refine s_seq (s_set (t_op (t_lst (a_cons (t_c (a_nil ⟨le1, fun p1 hp1 => ?_⟩))))))
        have sp1 := same_new (o := HO.lst [V.int 0]) hp1
        have hp1' : (upd H7 p1 (.lst [V.int 0])) p1 = some (.lst [V.int 0]) := upd_same
        generalize upd H7 p1 (.lst [V.int 0]) = H8 at *
        refine t_cb1 (t_op (t_var rfl (t_c (ix_d (i := 0) off_sub (dp_same (off_same sp1) _ _ d7) rfl (show ((BS pi').map fun m => nL (prodN m sB))[0]? = some (nL (prodN (sz (pi'.flatMap lv).length (Gq pi' 0)) sB)) by rw [List.getElem?_map, BS_head]; rfl) fun u0 du0 => len_d off_sub du0 rfl (rep_d (K := K) (N := N) (kn7.same sp1) hp1' ?_ (by omega) fun uz H9 s9 dz => nx_of ?_)))))
        · rw [List.length_map, lenP _ (List.mem_of_getElem? (BS_head pi')) sB lB]
        have s79 := sp1.trans s9
        have kn9 := kn7.same s79
        have d69 := dp_same (off_same s79) _ _ d67
        have d79 := dp_same (off_same s79) _ _ d7
        generalize hZ : List.replicate N 0 = zs at *
        have lz : zs.length = N := by rw [← hZ]; simp
        refine s_set (lcZ ([zs] ++ (BS pi').map fun m => prodN m sA) (((BS pi').map fun m => prodN m sB) ++ [zs]) nL nL (fun z => nL (sumL [z.1, z.2] N)) kn9 (fun Q q => ?_) (by simp [BS_len]; omega) (fun _ _ => rfl) (fun m n mn x1 y1 H10 S10 s10 kn10 dx1 dy1 hS ho Q q => ?_) fun D H10 ys hD s10 hd10 d10 => ?_)
        · refine a_cons (t_op (t_lst (a_cons (t_var rfl (a_nil ⟨le1, fun p3 hp3 => t_var rfl ?_⟩)))))
          have s3' := same_new (o := HO.lst [uz]) hp3
          refine cat_d (ds := [nL zs]) (es := (BS pi').map fun m => nL (prodN m sA)) (kn9.same s3') (dp_newL kn9 hp3 (.cons dz .nil)) (dp_same (off_same s3') _ _ d69) (by simp [BS_len]; omega) fun u1 H11 s11 d11 => a_cons (t_op (t_var rfl (t_lst (a_cons (t_var rfl (a_nil ⟨le1, fun p4 hp4 => ?_⟩))))))
          have s4' := same_new (o := HO.lst [uz]) hp4
          have s34 := s3'.trans s11
          have kn11 := kn9.same s34
          refine cat_d (ds := (BS pi').map fun m => nL (prodN m sB)) (es := [nL zs]) (kn11.same s4') (dp_same (off_same (s34.trans s4')) _ _ d79) (dp_newL kn11 hp4 (.cons (dp_same (off_same s34) _ _ dz) .nil)) (by simp [BS_len]; omega) fun u2 H12 s12 d12 => a_nil (q _ _ _ ((s34.trans s4').trans s12) ?_ ?_)
          · rw [List.map_append, List.map_map]; exact dp_same (off_same (s4'.trans s12)) _ _ d11
          · rw [List.map_append, List.map_map]; exact d12
        · have hm := (List.of_mem_zip mn).1
          have hn := (List.of_mem_zip mn).2
          have lm : m.length = N := by
            rcases List.mem_append.mp hm with h | h
            · rw [List.mem_singleton.mp h]; exact lz
            · obtain ⟨m', hm', rfl⟩ := List.mem_map.mp h; exact lenP m' hm' sA lA
          have ln : n.length = N := by
            rcases List.mem_append.mp hn with h | h
            · obtain ⟨m', hm', rfl⟩ := List.mem_map.mp h; exact lenP m' hm' sB lB
            · rw [List.mem_singleton.mp h]; exact lz
          refine t_call1 (t_lst (a_cons (t_var rfl (a_cons (t_var rfl (a_nil ⟨le2, fun p3 hp3 => ?_⟩))))))
          have s3' := same_new (o := HO.lst [x1, y1]) hp3
          refine ⟨S10, ([m, n], N), _, rfl, kn10.same s3', (dp_newL (ds := [nL m, nL n]) kn10 hp3 (.cons dx1 (.cons dy1 .nil))), ⟨fun l hl => ?_, List.cons_ne_nil _ _, by show 2 ≤ 8; omega, by show N ≤ 1000; omega⟩, fun u H12 s12 d12 => q u H12 (s3'.trans s12) (d12.dp (kn10.same s3'))⟩
          rcases List.mem_cons.mp hl with e | hl
          · rw [e]; exact lm
          · rw [List.mem_singleton.mp hl]; exact ln
        · refine ⟨_, _, _, _, _, _, _, _, _, _, rfl, s4.trans (s5.trans (s57.trans (s79.trans s10))), ?_⟩
          have ndp : ((pi' ++ [p]).flatMap lv).Nodup := by rw [← hpi, ← take_snoc' pi]; exact take_nodup nd (i + 1)
          have stp := BS_step ndp
          dsimp only at stp
          rw [hA, hB, hN, hZ] at stp
          rw [take_snoc' pi, hpi, ← stp]
          unfold nLL
          rw [List.map_map]
          exact d10
      · rintro σ' H4 ⟨u, x2, x3, x4, x5, x6, x7, x8, x9, x10, rfl, s4, d4⟩
        rw [List.take_length] at d4
        have hd4 := dp_same (off_same s4) _ _ hd3
        have kn4 := kn3.same s4
        have all := BS_all l7
        refine nx_of (s_ret (t_tup (a_cons (t_call1 (t_sl (t_var rfl (o_some (t_op (t_var rfl (t_c (ix_d (i := 1) off_sub hd4 rfl rfl fun u1 du1 => ?_)))))))))))
        cases du1
        refine ⟨_, rfl, o_none (sl_drop (m := k) (ms := BS ps) kn4 d4 (by rw [BS_len]; omega) fun u5 H5 s5 d5 => ⟨S, ((BS ps).drop k, (ps.flatMap lv).length + 1), _, rfl, kn4.same s5, d5, ⟨fun m hm => (all m (List.mem_of_mem_drop hm)).1, ?_, ?_, by show _ ≤ 1000; omega⟩, fun v6 H6 s6 d6 => ?_⟩)⟩
        · intro z
          have := congrArg List.length z
          rw [List.length_drop, BS_len, List.length_nil] at this
          omega
        · show ((BS ps).drop k).length ≤ 8
          rw [List.length_drop, BS_len]; omega
        replace d6 : NewL H5 H6 v6 (sumL ((BS ps).drop k) ((ps.flatMap lv).length + 1)) := d6
        have s46 := s5.trans s6
        have kn6 := kn4.same s46
        refine a_cons (t_call1 (t_sl (t_var rfl (o_none (o_some (t_op (t_var rfl (t_c (ix_d (i := 1) off_sub (dp_same (off_same s46) _ _ hd4) rfl rfl fun u1 du1 => ?_)))))))))
        cases du1
        refine ⟨_, rfl, sl_take (m := k) (ms := BS ps) kn6 (dp_same (off_same s46) _ _ d4) (by rw [BS_len]; omega) fun u7 H7 s7 d7 => ⟨S, ((BS ps).take k, (ps.flatMap lv).length + 1), _, rfl, kn6.same s7, d7, ⟨fun m hm => (all m (List.mem_of_mem_take hm)).1, ?_, ?_, by show _ ≤ 1000; omega⟩, fun v8 H8 s8 d8 => a_nil ⟨le2, fun p hp => ?_⟩⟩⟩
        · intro z
          have := congrArg List.length z
          rw [List.length_take, BS_len, List.length_nil] at this
          omega
        · show ((BS ps).take k).length ≤ 8
          rw [List.length_take, BS_len]; omega
        replace d8 : NewL H7 H8 v8 (sumL ((BS ps).take k) ((ps.flatMap lv).length + 1)) := d8
        have s78 := s7.trans s8
        rw [BS_drop (b := b) wf.2.1] at d6
        rw [BS_take (b := b) wf.2.1] at d8
        have sp := same_new (o := HO.tup [v6, v8]) hp
        have s04 := s12.trans (s3.trans s4)
        exact q _ _ (s04.trans (s46.trans (s78.trans sp))) ⟨p, v6, v8, rfl, upd_same, (d6.same (s78.trans sp)).older (s04.trans s5), (d8.same sp).older (s04.trans (s46.trans s7)), (s04.trans (s46.trans s78)).free hp⟩
end
end K31

set_option maxRecDepth 100000
set_option maxHeartbeats 4000000
namespace K31
open PySem PySem.Spec PyProof.Rows L2 Kh
section
variable {P : Program} {w : World} {K : PySem.W.Frag} {mg : Str → Option Value} {base : Heap} {a : Nat → Addr} {fd : Nat → FuncData} {C : Addr} {tk : Nat → Tok}
def std (t : Kh.T) : List Nat := sz (mem t).length ((lists (mem t)).filter fun m => st m t)
theorem at_mem {t : Kh.T} (wf : Wf t) (h : (lv t).length = (mem t).length) : sz (lv t).length (At t) = std t := by
  have nd := plain_nodup wf h
  unfold std
  rw [h]
  unfold sz
  refine List.map_congr_left fun j _ => ?_
  have hp := (lists_phi nd (mem_nodup t) fun n => (mem_iff wf n).symm).filter (fun m => st m t)
  rw [← cL_perm hp j]
  unfold At cL
  rw [List.filter_map, List.filter_map, List.length_map]
  have key : ∀ m ∈ lists (lv t), st ((mem t).filter fun n => decide (n ∈ m)) t = st m t ∧ ((mem t).filter fun n => decide (n ∈ m)).length = m.length := fun m hm => by
    have sub := (lists_mem _ m).mp hm
    have me : ∀ n, n ∈ (mem t).filter (fun n => decide (n ∈ m)) ↔ n ∈ m := fun n => by
      rw [List.mem_filter, decide_eq_true_iff]
      exact ⟨fun q => q.2, fun q => ⟨(mem_iff wf n).mpr (sub.subset q), q⟩⟩
    refine ⟨st_same fun n _ => me n, ?_⟩
    exact ((List.perm_ext_iff_of_nodup ((mem_nodup t).filter _) (sub.nodup nd)).mpr me).length_eq
  rw [List.filter_filter, List.filter_filter]
  congr 1
  refine List.filter_congr fun m hm => ?_
  obtain ⟨k1, k2⟩ := key m hm
  show (decide (m.length = j) && st m t) = (decide (((mem t).filter fun n => decide (n ∈ m)).length = j) && st ((mem t).filter fun n => decide (n ∈ m)) t)
  rw [k1, k2]
theorem ixN_ok {n j : Nat} (h : j < n) : ixN n ((j : Nat) : Int) = some j := by
  unfold ixN; rw [if_pos (by omega), if_pos (by omega)]; congr 1
theorem sz_step {n : Nat} {L : List (List Nat)} {m : List Nat} (d : Nat) (h : m.length ≤ n) (M : List (List Nat)) (hM : ∀ q, cL M q = cL L q + if m.length = q then d else 0) : (ivs (sz n L)).set m.length (.int ((cL L m.length + d : Nat) : Int)) = ivs (sz n M) := by
  refine List.ext_getElem (by simp [ivs, sz]) fun q h1 h2 => ?_
  rw [List.getElem_set]
  simp only [ivs, sz, List.getElem_map, List.getElem_range, hM]
  by_cases e : m.length = q
  · rw [if_pos e, if_pos e, e]
  · rw [if_neg e, if_neg e]; rfl
theorem sz_nil (n : Nat) : sz n [] = List.replicate (n + 1) 0 := by
  refine List.ext_getElem (by simp [sz]) fun q h1 h2 => ?_
  simp [sz, cL_nil]
theorem filt_take {α : Type} {l : List α} {i : Nat} {m : α} (h : l[i]? = some m) (p : α → Bool) : (l.take (i + 1)).filter p = (l.take i).filter p ++ if p m = true then [m] else [] := by
  rw [take_snoc' h, List.filter_append]
  cases e : p m <;> simp [e]
theorem cL_filt {l : List (List Nat)} {i : Nat} {m : List Nat} (h : l[i]? = some m) (p : List Nat → Bool) (q : Nat) : cL ((l.take (i + 1)).filter p) q = cL ((l.take i).filter p) q + if m.length = q then (if p m = true then 1 else 0) else 0 := by
  rw [filt_take h, cL_app]
  cases e : p m
  · simp [cL_nil]
  · simp [cL_cons, cL_nil]
def spStd (K : PySem.W.Frag) (C : Addr) : Sp := fun vs H Q _ => ∃ (S : Addr → Prop) (t : Kh.T) (x : Addr), vs = [.ref x] ∧ Kn S H ∧ TreeAt K C (off S H) t x ∧ Okt t ∧ preW t ∧ ∀ v H', Same H H' → NewL H H' v (std t) → Q v H'
theorem ok_standing (T : Txt K mg a fd C tk) (U : TxC K mg a C) : FnOk P w K mg base CX0 13 (a 28) (fd 28) ["tree"] (spStd K C) := by
  have G_plain_sizes := ok_plain_sizes (P := P) (w := w) (base := base) T 6
  have G_stands_in := ok_stands_in (P := P) (w := w) (base := base) T 6
  have G_lists_of := ok_lists_of (P := P) (w := w) (base := base) T
  have G_Tree_shape := ok_Tree_shape (P := P) (w := w) (base := base) T U
  have G_Tree_is_plain := ok_Tree_is_plain (P := P) (w := w) (base := base) T U
  have G_Tree_members := ok_Tree_members (P := P) (w := w) (base := base) T U
  obtain ⟨pS, hpS⟩ := U.p_shape
  obtain ⟨pP, hpP⟩ := U.p_is_plain
  refine T.F_standing.ok sc_standing (fun vs H Q E h => by obtain ⟨_, _, _, rfl, _⟩ := h; rfl) (fun cdv A outer s H vs Q E hr h => ?_)
  obtain ⟨S, t, x, rfl, kn, ht, ok, pre, q⟩ := h
  have m7 := pre.1
  refine ⟨_, (pss_cons (ps_set (i := 1) sc_standing.nd rfl (Or.inl rfl) (pe_prop (pv 0) U.cls hpS G_Tree_shape (hr.mono (by omega)) T.b_Tree_shape .nil pass0 rfl))
      (pss_cons (ps_if (pt_val (pe_prop (pv 0) U.cls hpP G_Tree_is_plain (hr.mono (by omega)) T.b_Tree_is_plain .nil pass0 rfl))
        (pss_one (ps_ret (pe_ix (k_ix (K := K)) (pe_call G_plain_sizes (hr.mono (by omega)) (by rfl) T.m_plain_sizes T.F_plain_sizes.kp T.b_plain_sizes .nil pass0 (pa_cons (pv 1) pa_nil)) pe_int (fun _ _ => rfl)))) pss_nil)
      (pss_cons (ps_set (i := 2) sc_standing.nd rfl (Or.inl rfl) (pe_op op_rep (pe_lst (pa_cons pe_int pa_nil)) (pe_op op_add (pe_callB (k_len (K := K)) (by rfl) T.z_len (by decide +kernel) (pa_cons (pe_meth0 (pv 0) U.cls U.me_members G_Tree_members (hr.mono (by omega)) T.b_Tree_members .nil pass0) pa_nil)) pe_int)))
      (pss_cons (ps_for PassesOwn.never rfl (k_pi (K := K) (pe_call G_lists_of (hr.mono (by omega)) (by rfl) T.m_lists_of T.F_lists_of.kp T.b_lists_of .nil pass0 (pa_cons (pe_meth0 (pv 0) U.cls U.me_members G_Tree_members (hr.mono (by omega)) T.b_Tree_members .nil pass0) pa_nil))) (pg_name (i := 3) sc_standing.nd rfl (Or.inl rfl))
        (pss_one (ps_if (pt_val (pe_call G_stands_in (hr.mono (by omega)) (by rfl) T.m_stands_in T.F_stands_in.kp T.b_stands_in .nil pass0 (pa_cons (pv 1) (pa_cons (pv 3) pa_nil))))
          (pss_one (ps_asg (pe_op op_add (pe_ix (k_ix (K := K)) (pv 2) (pe_callB (k_len (K := K)) (by rfl) T.z_len (by decide +kernel) (pa_cons (pv 3) pa_nil)) (fun _ _ => rfl)) pe_int) (pg_sub (pv 2) (pe_callB (k_len (K := K)) (by rfl) T.z_len (by decide +kernel) (pa_cons (pv 3) pa_nil)) set_list))) pss_nil)))
      (pss_one (ps_ret (pv 2))))))), ?_⟩
  refine s_seq (s_set (t_shape rfl kn ht ok fun u H1 s1 du => nx_of ?_))
  have kn1 := kn.same s1
  have ht1 := ht.same (off_same s1)
  refine s_seq (s_if (b_val (t_plain rfl kn1 ht1 ok fun H2 s2 => ⟨_, rfl, if_b (fun e => ?_) (fun e => s_next ?_)⟩)))
  · have e1 := of_decide_eq_true e
    have e2 := at_mem ok.1 e1
    have e3 : sz (lv (flg false t)).length (At (flg false t)) = std t := by
      rw [← e2]; unfold At; rw [lv_flg]
      congr 1
      exact List.filter_congr fun m _ => st_flg _ _ t
    refine s_ret (t_op (t_call1 (t_var rfl ⟨S, flg false t, u, rfl, kn1.same s2, dp_same (off_same s2) _ _ du, ⟨(preOf (okt_flg ok)).1, (preOf (okt_flg ok)).2, by rw [lv_flg]; exact plain_nodup ok.1 e1, by rw [lv_flg, e1]; exact m7⟩, fun v H3 s3 d3 => t_c ?_⟩)))
    obtain ⟨p, l1, l2, rfl, hp, h1, h2, h0⟩ := d3
    rw [e3] at h1
    exact .inr (.inl ⟨p, [l1, l2], 0, l1, rfl, rfl, sqT hp, rfl, q l1 H3 ((s1.trans s2).trans s3) (h1.older (s1.trans s2))⟩)
  have s12 := s1.trans s2
  have kn2 := kn.same s12
  have ht2 := ht.same (off_same s12)
  have du2 := dp_same (off_same s2) _ _ du
  refine s_seq (s_set (t_op (t_lst (a_cons (t_c (a_nil ⟨le1, fun p1 hp1 => ?_⟩))))))
  have sp1 := same_new (o := HO.lst [V.int 0]) hp1
  have hp1' : (upd H2 p1 (.lst [V.int 0])) p1 = some (.lst [V.int 0]) := upd_same
  generalize upd H2 p1 (.lst [V.int 0]) = H3 at *
  refine t_op (t_cb1 (t_members rfl (kn2.same sp1) (ht2.same (off_same sp1)) ok fun um H4 s4 dm => ?_))
  replace dm : Dp K (off S H4) um (.list ((mem t).map nD)) := dm
  refine len_d off_sub dm rfl (t_c ⟨_, _, rfl, rfl, ?_⟩)
  have eN : (((mem t).map nD).length : Int) + 1 = (((mem t).length + 1 : Nat) : Int) := by rw [List.length_map]; omega
  refine ⟨p1, (((mem t).length + 1 : Nat) : Int), _, rfl, congrArg V.int eN, s4 _ _ hp1', by omega, by omega, ?_, fun D hD => nx_of ?_⟩
  · rw [Int.toNat_natCast]
    show 1 * _ ≤ sizeLine
    exact Nat.le_trans (by omega) (show 1000 ≤ sizeLine by decide)
  rw [rep0]
  have s24 := sp1.trans s4
  have hDn : H D = none := (s12.trans s24).free hD
  have nS : ¬ S D := kn.new hDn
  have sN := same_new (o := HO.lst (ivs (List.replicate ((mem t).length + 1) 0))) hD
  have hU : (upd H4 D (.lst (ivs (List.replicate ((mem t).length + 1) 0)))) D = some (.lst (ivs (List.replicate ((mem t).length + 1) 0))) := upd_same
  have kn0 : Kn (plus S D) (upd H4 D (.lst (ivs (List.replicate ((mem t).length + 1) 0)))) := ((kn2.same s24).same sN).plus (some_ne hU)
  have du0 := dp_same (off_plus hD sN) _ _ (dp_same (off_same s24) _ _ du2)
  have ht0 : TreeAt K C (off (plus S D) (upd H4 D (.lst (ivs (List.replicate ((mem t).length + 1) 0))))) t x := (ht2.same (off_same s24)).same (off_plus hD sN)
  have s04 := (s12.trans s24).trans sN
  generalize upd H4 D (.lst (ivs (List.replicate ((mem t).length + 1) 0))) = H5 at *
  refine s_seq (forM (S := plus S D) false (lists (mem t)) nL kn0 (fun Q q => t_call1 (t_members rfl kn0 ht0 ok fun u1 H6 s6 d6 => ⟨plus S D, mem t, kn0.same s6, .cons d6 .nil, by show (mem t).length ≤ 8; omega, fun u2 H7 s7 d7 => q u2 H7 (s6.trans s7) d7⟩)) fun H6 s6 kn6 => ?_)
  refine ⟨fun i σ' H' => ∃ x3, σ' = [some (.ref x), some u, some (.ref D), x3] ∧ Same H H' ∧ H' D = some (.lst (ivs (sz (mem t).length (((lists (mem t)).take i).filter fun m => st m t)))) ∧ SameBut D H6 H', ⟨_, rfl, s04.trans s6, by rw [List.take_zero, List.filter_nil, sz_nil]; exact s6 _ _ hU, sbut (Same.refl _)⟩, fun i σ' H' ⟨_, _, _, _, sb⟩ => off_sb sb, ?_, ?_⟩
  · rintro i m y σ' H' mi hi hm dx ⟨x3, rfl, sH, hv, sb⟩
    have knH : Kn (plus S D) H' := (kn.same sH).plus (some_ne hv)
    have dx' := dp_same (off_but sb) _ _ dx
    have du' := dp_same (off_but sb) _ _ (dp_same (off_same s6) _ _ du0)
    refine g_name (s_if (b_val (t_call2 (t_var rfl (t_var rfl ⟨plus S D, (flg false t, false, m), knH, .cons du' (.cons dx' .nil), preOf (okt_flg ok), fun b H8 s8 db => ?_⟩)))))
    replace db : Dp K (off (plus S D) H8) b (.bool (st m (flg false t))) := db
    rw [st_flg] at db
    cases db
    have sb8 : SameBut D H6 H8 := fun c o n h => s8 c o (sb c o n h)
    have hv8 := s8 _ _ hv
    have sH8 := sH.trans s8
    have stp := cL_filt mi fun m => st m t
    have lm := ((lists_mem _ m).mp hm).length_le
    refine ⟨_, rfl, if_b (fun e => ?_) (fun e => s_next ⟨_, rfl, sH8, ?_, sb8⟩)⟩
    · have dm8 : Dp K (off S H8) y (.list (m.map nD)) := dp_same off_fin _ _ (dp_same (off_same s8) _ _ dx')
      refine s_asgg (t_op (t_op (t_var rfl (t_cb1 (t_var rfl (len_d off_sub dm8 rfl (ix_d (i := (m.map nD).length) off_sub (dp_lst nS hv8 (nats_dpa (sz (mem t).length (((lists (mem t)).take i).filter fun m => st m t)))) rfl (get_nD (by rw [List.length_map, sz_len]; omega)) fun z dz => ?_)))))))
      rw [List.length_map, sz_get _ _ _ (by omega)] at dz
      cases dz
      refine t_c ⟨_, _, rfl, rfl, t_var rfl (t_cb1 (t_var rfl (len_d off_sub dm8 rfl ⟨D, _, _, m.length, rfl, rfl, hv8, by rw [List.length_map, List.length_map]; exact ixN_ok (by rw [sz_len]; omega), ?_⟩)))⟩
      refine nx_of ⟨_, rfl, smut sH8 hDn, ?_, bmut sb8⟩
      rw [upd_same]
      exact congrArg (fun z => some (HO.lst z)) (sz_step 1 lm _ (fun q => by rw [stp q, if_pos e]))
    · rw [hv8]
      congr 3
      unfold sz
      refine List.map_congr_left fun q _ => ?_
      rw [stp q]
      simp [e]
  · rintro σ' H' ⟨x3, rfl, sH, hv, sb⟩
    rw [List.take_length] at hv
    exact nx_of (s_ret (t_var rfl (q _ _ sH ⟨D, rfl, hDn, hv⟩)))
end
end K31

set_option maxRecDepth 100000
set_option maxHeartbeats 4000000
namespace K31
open PySem PySem.Spec PyProof.Rows L2 Kh
theorem sub_key : ∀ {l : List Nat}, l.Nodup → ∀ z, z.Sublist l → z = l.filter fun n => decide (n ∈ z)
  | [], _, z, hz => by rw [List.sublist_nil.mp hz]; rfl
  | a :: l, nd, z, hz => by
    obtain ⟨n1, n2⟩ := List.nodup_cons.mp nd
    cases hz with
    | cons _ hz =>
      have : a ∉ z := fun q => n1 (hz.subset q)
      rw [List.filter_cons, if_neg (by rw [decide_eq_false this]; exact Bool.false_ne_true)]
      exact sub_key n2 z hz
    | cons_cons _ hz =>
      rename_i z
      rw [List.filter_cons, if_pos (decide_eq_true List.mem_cons_self)]
      congr 1
      refine (sub_key n2 z hz).trans (List.filter_congr fun n hn => decide_eq_decide.mpr ⟨List.mem_cons_of_mem _, fun q => (List.mem_cons.mp q).elim (fun e => (n1 (by rw [← e]; exact hn)).elim) id⟩)
def comp (l m : List Nat) : List Nat := l.filter fun n => !decide (n ∈ m)
theorem comp_mem {l m : List Nat} {n : Nat} : n ∈ comp l m ↔ n ∈ l ∧ n ∉ m := by
  unfold comp; rw [List.mem_filter]; simp
theorem sub_ext {l : List Nat} (nd : l.Nodup) {x y : List Nat} (hx : x.Sublist l) (hy : y.Sublist l) (h : ∀ n, n ∈ x ↔ n ∈ y) : x = y := by
  rw [sub_key nd x hx, sub_key nd y hy]
  exact List.filter_congr fun n _ => decide_eq_decide.mpr (h n)
theorem comp_sub (l m : List Nat) : (comp l m).Sublist l := List.filter_sublist
theorem comp_comp {l : List Nat} (nd : l.Nodup) {m : List Nat} (hm : m.Sublist l) : comp l (comp l m) = m := sub_ext nd (comp_sub _ _) hm fun n => by
  rw [comp_mem, comp_mem]
  constructor
  · rintro ⟨h1, h2⟩
    exact Classical.byContradiction fun z => h2 ⟨h1, z⟩
  · intro h
    exact ⟨hm.subset h, fun z => z.2 h⟩
theorem comp_perm {l : List Nat} (nd : l.Nodup) : ((lists l).map (comp l)).Perm (lists l) := by
  refine (List.perm_ext_iff_of_nodup ?_ (lists_nodup l nd)).mpr fun m => ?_
  · refine List.pairwise_map.mpr ((lists_nodup l nd).imp_of_mem fun {x y} hx hy ne e => ne ?_)
    rw [← comp_comp nd ((lists_mem l x).mp hx), ← comp_comp nd ((lists_mem l y).mp hy), e]
  · rw [List.mem_map, lists_mem]
    constructor
    · rintro ⟨x, _, rfl⟩; exact comp_sub _ _
    · intro hm
      exact ⟨comp l m, (lists_mem _ _).mpr (comp_sub _ _), comp_comp nd hm⟩
theorem comp_len {l m : List Nat} (nd : l.Nodup) (hm : m.Sublist l) : (comp l m).length + m.length = l.length := by
  have e := sub_key nd m hm
  have : (l.filter fun n => decide (n ∈ m)).length + (l.filter fun n => !decide (n ∈ m)).length = l.length := by
    clear e hm nd
    induction l with
    | nil => rfl
    | cons a l ih =>
      rw [List.filter_cons, List.filter_cons]
      cases decide (a ∈ m) <;> simp <;> omega
  rw [← e] at this
  unfold comp; omega
theorem both_at {t : Kh.T} (wf : Wf t) {j : Nat} (hj : j ≤ (mem t).length) : cL ((lists (mem t)).filter fun m => st m t) j + cL ((lists (mem t)).filter fun m => st m (con t)) ((mem t).length - j) = cL (lists (mem t)) j := by
  have nd := mem_nodup t
  rw [← cL_perm ((comp_perm nd).filter fun m => st m (con t))]
  unfold cL
  rw [List.filter_map, List.filter_map, List.length_map, List.filter_filter, List.filter_filter]
  have e : (lists (mem t)).filter (fun a => ((fun m => decide (m.length = (mem t).length - j)) ∘ comp (mem t)) a && ((fun m => st m (con t)) ∘ comp (mem t)) a) = (lists (mem t)).filter (fun m => decide (m.length = j) && !st m t) := by
    refine List.filter_congr fun m hm => ?_
    have sub := (lists_mem _ m).mp hm
    have hl := comp_len nd sub
    show (decide ((comp (mem t) m).length = (mem t).length - j) && st (comp (mem t) m) (con t)) = _
    rw [st_con (comp (mem t) m) m t wf fun n hn => by
      have := (mem_iff wf n).mpr hn
      rw [comp_mem]; exact ⟨fun q => q.2, fun q => ⟨this, q⟩⟩]
    congr 1
    exact decide_eq_decide.mpr (by omega)
  rw [e]
  generalize lists (mem t) = L
  induction L with
  | nil => rfl
  | cons m L ih =>
    rw [List.filter_cons, List.filter_cons, List.filter_cons]
    cases h1 : decide (m.length = j) <;> cases h2 : st m t <;> simp [h1, h2] <;> omega
theorem std_con_mem (t : Kh.T) : (std (con t)).length = (mem t).length + 1 := by unfold std; rw [sz_len, mem_con]
theorem both_row {t : Kh.T} (wf : Wf t) : ((std t).zip (std (con t)).reverse).map (fun p : Nat × Nat => p.1 + p.2) = sz (mem t).length (lists (mem t)) := by
  have l1 : (std t).length = (mem t).length + 1 := sz_len _ _
  have l2 := std_con_mem t
  refine List.ext_getElem (by simp [l1, l2, sz_len]) fun q h1 h2 => ?_
  rw [sz_len] at h2
  have e1 : (std t)[q]'(by omega) = cL ((lists (mem t)).filter fun m => st m t) q := by simp only [std, sz, List.getElem_map, List.getElem_range]
  have e2 : ∀ k (hk : k < (std (con t)).length), (std (con t))[k] = cL ((lists (mem t)).filter fun m => st m (con t)) k := fun k hk => by simp only [std, sz, List.getElem_map, List.getElem_range, mem_con]
  have e3 : (sz (mem t).length (lists (mem t)))[q]'(by rw [sz_len]; exact h2) = cL (lists (mem t)) q := by simp only [sz, List.getElem_map, List.getElem_range]
  rw [List.getElem_map, List.getElem_zip, e3]
  show (std t)[q]'_ + (std (con t)).reverse[q]'_ = _
  rw [e1, List.getElem_reverse, e2, l2]
  have : (mem t).length + 1 - 1 - q = (mem t).length - q := by omega
  rw [this]
  exact both_at wf (by omega)
/-- the rows of the triangle -/
def tri (ns : List Nat) (i : Nat) : List Nat := sz i (lists (ns.take i))
theorem cL_snoc (l : List Nat) (x j : Nat) : cL (lists (l ++ [x])) j = cL (lists l) j + if j = 0 then 0 else cL (lists l) (j - 1) := by
  rw [lists_snoc, cL_app]
  congr 1
  generalize lists l = L
  induction L with
  | nil => rw [List.map_nil, cL_nil, cL_nil]; split <;> rfl
  | cons m L ih =>
    rw [List.map_cons, cL_cons, cL_cons, ih, List.length_append]
    by_cases h : j = 0
    · subst h; rw [if_pos rfl, if_pos rfl]; simp
    · rw [if_neg h, if_neg h]
      by_cases e : m.length = j - 1
      · rw [if_pos e, if_pos (by simp; omega)]
      · rw [if_neg e, if_neg (by simp; omega)]
theorem cL_over {l : List Nat} {j : Nat} (h : l.length < j) : cL (lists l) j = 0 := by
  unfold cL
  rw [List.length_eq_zero_iff, List.filter_eq_nil_iff]
  intro m hm
  have := ((lists_mem l m).mp hm).length_le
  rw [decide_eq_false (by omega)]; exact Bool.false_ne_true
theorem tri_step {ns : List Nat} {i n : Nat} (h : ns[i]? = some n) : (([0] ++ tri ns i).zip (tri ns i ++ [0])).map (fun p : Nat × Nat => p.1 + p.2) = tri ns (i + 1) := by
  have hi : i < ns.length := (List.getElem?_eq_some_iff.mp h).1
  have li : (ns.take i).length = i := by rw [List.length_take]; omega
  have hl : (tri ns i).length = i + 1 := sz_len _ _
  have get : ∀ q (hq : q < (tri ns i).length), (tri ns i)[q] = cL (lists (ns.take i)) q := fun q hq => by simp only [tri, sz, List.getElem_map, List.getElem_range]
  refine List.ext_getElem (by simp [hl, tri, sz_len]) fun q h1 h2 => ?_
  have h2' : q < i + 2 := by simpa [tri, sz_len] using h2
  have e3 : (tri ns (i + 1))[q]'h2 = cL (lists (ns.take (i + 1))) q := by simp only [tri, sz, List.getElem_map, List.getElem_range]
  rw [e3, take_snoc' h, cL_snoc, List.getElem_map, List.getElem_zip]
  show ([0] ++ tri ns i)[q]'_ + (tri ns i ++ [0])[q]'_ = _
  have a1 : ([0] ++ tri ns i)[q]'(by simp [hl]; omega) = if q = 0 then 0 else cL (lists (ns.take i)) (q - 1) := by
    cases q with
    | zero => rfl
    | succ q =>
      rw [if_neg (by omega), List.getElem_append_right (by simp)]
      simp only [List.length_singleton, Nat.add_sub_cancel]
      exact get q (by omega)
  have a2 : (tri ns i ++ [0])[q]'(by simp [hl]; omega) = cL (lists (ns.take i)) q := by
    by_cases hq : q < i + 1
    · rw [List.getElem_append_left (by omega), get q (by omega)]
    · rw [List.getElem_append_right (by omega), cL_over (by omega)]
      simp
  rw [a1, a2]; omega
theorem std_small {t : Kh.T} (h : (mem t).length ≤ 7) : ∀ n ∈ std t, n < 256 := fun n hn => by
  have h1 := sz_small hn
  have h2 : ((lists (mem t)).filter fun m => st m t).length ≤ (lists (mem t)).length := List.length_filter_le _ _
  rw [lists_len] at h2
  have h3 := pow7 h
  omega
theorem std_all (t : Kh.T) : sz (mem t).length ((llists (mem t)).filter fun m => st m t) = std t := by
  unfold std sz
  exact List.map_congr_left fun j _ => cL_perm ((llists_perm (mem t)).filter _) j
end K31

set_option maxRecDepth 100000
set_option maxHeartbeats 2000000
/-! list(zip(a, b)) of two lists of one length -/
namespace Kh
open PySem PySem.Spec PyProof.Rows L2
theorem nolen_zip : typeLookup (.type "zip") "__len__" = pure none := by rw [typeLookup_type, builtinLookup_eq_fast]; kernel_rfl
theorem nohint_zip : typeLookup (.type "zip") "__length_hint__" = pure none := by rw [typeLookup_type, builtinLookup_eq_fast]; kernel_rfl
abbrev TupO (vs : List Value) : Obj := { cls := .type "tuple", data := .seq vs.toArray }
structure ZlG (f : Nat → List Value) (lo : Addr) (h : Heap) (as : List Addr) : Prop where
  rise : as.Pairwise (· < ·)
  above : ∀ a ∈ as, lo < a
  at_ : ∀ (j : Nat) (a : Addr), as[j]? = some a → h.get? a = some (TupO (f j))
theorem ZlG.there {f : Nat → List Value} {lo : Addr} {h : Heap} {as : List Addr} (g : ZlG f lo h as) {a : Addr} (ha : a ∈ as) : a < h.objs.size := by
  obtain ⟨j, hj⟩ := List.mem_iff_getElem?.mp ha
  exact Heap.lt_size (g.at_ j a hj)
theorem ZlG.low {f : Nat → List Value} {lo lo' : Addr} {h : Heap} {as : List Addr} (g : ZlG f lo h as) (hl : lo' ≤ lo) : ZlG f lo' h as := ⟨g.rise, fun a ha => Nat.lt_of_le_of_lt hl (g.above a ha), g.at_⟩
structure Src (h : Heap) (ls : List Addr) (n : Nat) (f : Nat → List Value) : Prop where
  len : ∀ i, (f i).length = ls.length
  get : ∀ i, i < n → ∀ (k : Nat) l v, ls[k]? = some l → (f i)[k]? = some v → ∃ xs, h.IsList l xs ∧ xs[i]? = some v
  stop : ∀ l, ls[0]? = some l → ∃ xs, h.IsList l xs ∧ xs[n]? = none
theorem Src.at {h h' : Heap} {ls : List Addr} {n : Nat} {f : Nat → List Value} (x : Src h ls n f) (hk : ∀ l ∈ ls, ∀ o, h.get? l = some o → h'.get? l = some o) : Src h' ls n f :=
  ⟨x.len, fun i hi k l v h1 h2 => let ⟨xs, a, b⟩ := x.get i hi k l v h1 h2; ⟨xs, a.at fun o e => hk l (List.mem_of_getElem? h1) o e, b⟩, fun l h1 => let ⟨xs, a, b⟩ := x.stop l h1; ⟨xs, a.at fun o e => hk l (List.mem_of_getElem? h1) o e, b⟩⟩
theorem ZN.at {h h' : Heap} {z TI TO : Addr} {its ls : List Addr} {i : Nat} (D : Ap z TI TO its ls) (x : ZN h z TI TO its ls i) (k : ∀ b, b ∈ z :: TI :: TO :: its → ∀ o, h.get? b = some o → h'.get? b = some o) : ZN h' z TI TO its ls i := by
  obtain ⟨⟨f, g, hz, hf⟩, hTI, ⟨ys, hTO, ly⟩, hit⟩ := x
  exact ⟨⟨f, g, k z (by simp) _ hz, hf⟩, k TI (by simp) _ hTI, ⟨ys, k TO (by simp) _ hTO, ly⟩, fun j i l h1 h2 => (hit j i l h1 h2).at fun o q => k i (by simp [List.mem_of_getElem? h1]) o q⟩
section
variable {prog : Program} {w : World} {A : Around} {s : Shared} {R : Result → Shared → Prop} {z TI TO : Addr} {its ls : List Addr} {n : Nat} {f : Nat → List Value}
theorem zl_loop {S lo : Addr} (hh : A.handled = none) (D : Ap z TI TO its ls) (ne : its ≠ []) (l8 : its.length ≤ 1000) (hSf : S ∉ z :: TI :: TO :: its) (hSl : S ∉ ls) (hfl : ∀ b ∈ z :: TI :: TO :: its, b ≤ lo) (hSlo : S ≤ lo) (hn : n ≤ sizeLine) (res : Value) {h₁ : Heap}
    (hR : ∀ h' tk acc c as, (∀ b o, b ≠ S → b ∉ z :: TI :: TO :: its → h₁.get? b = some o → h'.get? b = some o) → h'.get? S = some { cls := .type "list", dict := none, data := .seq acc c, slots := #[] } → as.length = n → ZlG f lo h' as →
      acc.toList = as.map Value.ref → R (.ok (.ret res)) { s with heap := h', toks := tk }) :
    ∀ (k i : Nat) (h : Heap) (tk c : Nat) (acc : Array Value) (as : List Addr), n - i = k → i ≤ n → ZN h z TI TO its ls i → Src h ls n f → (∀ b o, b ≠ S → b ∉ z :: TI :: TO :: its → h₁.get? b = some o → h.get? b = some o) →
      h.get? S = some { cls := .type "list", dict := none, data := .seq acc c, slots := #[] } → acc.toList = as.map Value.ref → as.length = i → ZlG f lo h as → lo < h.objs.size →
      codeAny (model prog w) A (.builtin "list.extend.loop" ⟨[.ref S, .ref z, res], []⟩) R { s with heap := h, toks := tk } := by
  have hSz : S ≠ z := fun e => hSf (by rw [e]; simp)
  have out : ∀ {h h' : Heap}, (∀ c o, c ≠ z → c ≠ TO → c ∉ its → h.get? c = some o → h'.get? c = some o) → ∀ c o, c ∉ z :: TI :: TO :: its → h.get? c = some o → h'.get? c = some o := fun hk c o hc e => hk c o (fun q => hc (by simp [q])) (fun q => hc (by simp [q])) (fun q => hc (by simp [q])) e
  have lsf : ∀ l ∈ ls, l ∉ its ∧ l ≠ z ∧ l ≠ TO := fun l hl => ⟨D.li l hl, D.lz l hl, D.lo l hl⟩
  intro k
  induction k with
  | zero =>
    intro i h tk c acc as hk hi hst hsr hkeep hS hacc hal hG hIs
    have hin : i = n := by omega
    refine codeAny_builtin PySem.F.entry_extend_loop ?_
    rw [Around.under_plainId PySem.F.plain_extend_loop _]
    show wpAny _ A.in1 (pyNext (.ref z) >>= _) _ _ _
    refine wpAny_bind (zipN_pyStop (s := { s with heap := h, toks := tk }) (A := A.in1) hh D hst ne (fun l hl => by rw [hin]; exact hsr.stop l hl) fun h' he => ?_)
    have he' := out he
    refine wpAny_pure (hR h' tk acc c as (fun b o h1 h2 e => he' b o h2 (hkeep b o h1 h2 e)) (he' S _ hSf hS) (by omega) ⟨hG.rise, hG.above, fun j a hj => ?_⟩ hacc)
    exact he' a _ (fun q => Nat.lt_irrefl _ (Nat.lt_of_lt_of_le (hG.above a (List.mem_of_getElem? hj)) (hfl a q))) (hG.at_ j a hj)
  | succ k ih =>
    intro i h tk c acc as hk hi hst hsr hkeep hS hacc hal hG hIs
    have hlt : i < n := by omega
    have hsz : acc.size = i := by rw [← Array.length_toList, hacc, List.length_map, hal]
    refine codeAny_builtin PySem.F.entry_extend_loop ?_
    rw [Around.under_plainId PySem.F.plain_extend_loop _]
    show wpAny _ A.in1 (pyNext (.ref z) >>= _) _ _ _
    refine wpAny_bind (zipN_pyNext (s := { s with heap := h, toks := tk }) (A := A.in1) D hst ne l8 (vs := f i) (by rw [hsr.len, D.len]) (hsr.get i hlt) fun h' hst' ht hz hkp => ?_)
    dsimp only at ht hz hkp ⊢
    have hkp' := out hkp
    have hS' := hkp' S _ hSf hS
    have up : ∀ b o, b ≠ S → h'.get? b = some o → (h'.update S (Obj.mapSeq (·.push (Value.ref h.objs.size)))).get? b = some o := fun b o hb e => (Heap.get?_update_other _ _ (Ne.symm hb)).trans e
    have hSl' : S < h.objs.size := Heap.lt_size hS
    show wpAny _ A.in1 (updateSeq S (·.push (Value.ref h.objs.size)) >>= _) _ _ _
    refine wpAny_bind ?_
    refine wpAny_updateSeq hS' rfl (wpAny_pure ⟨plainId_quiet PySem.F.plain_extend_loop _, ih (i + 1) _ tk _ (acc.push (Value.ref h.objs.size)) (as ++ [h.objs.size]) (by omega) hlt (hst'.at D fun b hb o e => up b o (fun q => hSf (by rw [← q]; exact hb)) e) (hsr.at fun l hl o e => up l o (fun q => hSl (by rw [← q]; exact hl)) (hkp l o (lsf l hl).2.1 (lsf l hl).2.2 (lsf l hl).1 e))
      (fun b o h1 h2 e => up b o h1 (hkp' b o h2 (hkeep b o h1 h2 e))) (Heap.get?_update_self _ hS' rfl) (by rw [Array.toList_push, hacc, List.map_append]; rfl) (by rw [List.length_append, hal]; rfl) ⟨?_, ?_, ?_⟩ ?_⟩) (by rw [hsz]; omega) (by show (acc.push (Value.ref h.objs.size)).size ≤ sizeLine + 1; rw [Array.size_push, hsz]; omega)
    · refine List.pairwise_append.mpr ⟨hG.rise, List.pairwise_singleton _ _, fun a ha b hb => ?_⟩
      rw [List.mem_singleton.mp hb]
      exact hG.there ha
    · intro a ha
      rcases List.mem_append.mp ha with ha | ha
      · exact hG.above a ha
      · rw [List.mem_singleton.mp ha]; exact hIs
    · intro j b hj
      rcases Nat.lt_trichotomy j as.length with h1 | h1 | h1
      · rw [List.getElem?_append_left h1] at hj
        have hb := hG.above b (List.mem_of_getElem? hj)
        exact up b _ (Nat.ne_of_gt (Nat.lt_of_le_of_lt hSlo hb)) (hkp' b _ (fun q => Nat.lt_irrefl _ (Nat.lt_of_lt_of_le hb (hfl b q))) (hG.at_ j b hj))
      · subst h1
        have hb : h.objs.size = b := by simpa using hj
        subst hb
        rw [hal]
        exact up _ _ (Nat.ne_of_gt hSl') ht
      · have hnone : (as ++ [h.objs.size])[j]? = none := List.getElem?_eq_none (by rw [List.length_append, List.length_singleton]; omega)
        rw [hnone] at hj; cases hj
    · have e : (h'.update S (Obj.mapSeq (·.push (Value.ref h.objs.size)))).get? h.objs.size = _ := up _ _ (Nat.ne_of_gt hSl') ht
      exact Nat.lt_trans hIs (Heap.lt_size e)
end
section
variable {prog : Program} {w : World} {A : Around} {E : Value → Shared → Prop} {s : Shared} {z TI TO : Addr} {its ls : List Addr} {n : Nat} {f : Nat → List Value}
theorem zl_call {Q : Value → Shared → Prop} (hh : A.handled = none) (D : Ap z TI TO its ls) (ne : its ≠ []) (l8 : its.length ≤ 1000) (hst : ZN s.heap z TI TO its ls 0) (hsr : Src s.heap ls n f) (hlo : ∀ b ∈ z :: TI :: TO :: its, b < s.heap.objs.size) (hll : ∀ b ∈ ls, b < s.heap.objs.size) (hn : n ≤ sizeLine)
    (hQ : ∀ h' tk acc c as, (∀ b o, b ∉ z :: TI :: TO :: its → s.heap.get? b = some o → h'.get? b = some o) → h'.get? s.heap.objs.size = some { cls := .type "list", dict := none, data := .seq acc c, slots := #[] } → as.length = n → ZlG f s.heap.objs.size h' as →
      acc.toList = as.map Value.ref → Q (.ref s.heap.objs.size) { s with heap := h', toks := tk }) :
    wpAny (model prog w) A (call (.type "list") [.ref z]) Q E s := by
  refine callType_codes (Q₁ := fun obj s₁ => obj = .ref s.heap.objs.size ∧ s₁ = { s with heap := s.heap.push { cls := .type "list", data := .seq #[] } }) PySem.F.called_list (PySem.F.typeCall_list_1 _) PySem.F.entry_list_init
    (code_list_new _ ⟨rfl, rfl⟩) fun obj s₁ h₁ => ?_
  obtain ⟨rfl, rfl⟩ := h₁
  have hS : (s.heap.push { cls := .type "list", data := .seq #[] }).get? s.heap.objs.size = some { cls := .type "list", data := .seq #[] } := Heap.get?_push_size _ rfl
  have hSf : s.heap.objs.size ∉ z :: TI :: TO :: its := fun q => Nat.lt_irrefl _ (hlo _ q)
  have hSl : s.heap.objs.size ∉ ls := fun q => Nat.lt_irrefl _ (hll _ q)
  have hSz : s.heap.objs.size ≠ z := fun e => hSf (by rw [e]; simp)
  refine ⟨⟨_, hS, rfl⟩, PySem.F.args_list_init_2 _ _, ?_⟩
  show wpAny _ _ (do let old ← Builtin.List.listItems (.ref s.heap.objs.size); Builtin.List.listUpdate (.ref s.heap.objs.size) (fun _ => #[]); letGo old.toList.reverse; Builtin.List.listExtendWith (.ref s.heap.objs.size) (.ref z) .none) _ _ _
  refine wpAny_bind ?_
  unfold Builtin.List.listItems
  refine wpAny_bind (wpAny_seqItems hS rfl (wpAny_pure ?_))
  show wpAny _ _ (updateSeq s.heap.objs.size (fun _ => #[]) >>= fun _ => letGo (#[] : Array Value).toList.reverse >>= fun _ => Builtin.List.listExtendWith (.ref s.heap.objs.size) (.ref z) .none) _ _ _
  refine wpAny_bind (wpAny_updateSeq hS rfl ?_)
  have hS₂ := Heap.get?_update_self (Obj.mapSeq (fun _ => (#[] : Array Value))) hS rfl
  have oth : ∀ b o, b ≠ s.heap.objs.size → s.heap.get? b = some o → ((s.heap.push { cls := .type "list", data := .seq #[] }).update s.heap.objs.size (Obj.mapSeq (fun _ => (#[] : Array Value)))).get? b = some o :=
    fun b o hb e => (Heap.get?_update_other _ _ (Ne.symm hb)).trans (Heap.get?_push_of_some _ e)
  have hsz : ((s.heap.push { cls := .type "list", data := .seq #[] }).update s.heap.objs.size (Obj.mapSeq (fun _ => (#[] : Array Value)))).objs.size = s.heap.objs.size + 1 := by rw [(Heap.SameBut.update ..).1, Heap.size_push]
  refine wpAny_bind (wpAny_letGo ?_)
  generalize (s.heap.push { cls := .type "list", data := .seq #[] }).update s.heap.objs.size (Obj.mapSeq (fun _ => (#[] : Array Value))) = h2 at *
  have hst2 := hst.at D fun b hb o e => oth b o (fun q => hSf (by rw [← q]; exact hb)) e
  obtain ⟨f0, g0, hz0, hf0⟩ := hst2.zip
  have hT : ∀ (tk : Nat), ({ s with heap := h2, toks := tk } : Shared).TypeIs (.ref z) "zip" := fun tk => ⟨_, hz0, rfl⟩
  unfold Builtin.List.listExtendWith
  refine wpAny_bind (wpAny_typeOf (T := "zip") ⟨_, hz0, rfl⟩ ?_)
  have h1 : Builtin.List.listSameRef (.ref s.heap.objs.size) (.ref z) = false := by simp [Builtin.List.listSameRef, hSz]
  have h2' : (Value.type "zip" == Value.type "list") = false := by decide
  have h3 : (Value.type "zip" == Value.type "tuple") = false := by decide
  simp only [h1, h2', h3, Bool.or_false, Bool.false_eq_true, if_false]
  refine wpAny_bind (iter_zipN hst2 ?_)
  refine wpAny_bind (wpAny_holding ?_)
  unfold Builtin.List.listLengthHint
  refine wpAny_bind (wpAny_specialOf (T := "zip") ⟨_, hz0, rfl⟩ nolen_zip ?_)
  show wpAny _ _ (specialOf (Value.ref z) (Str.ofString "__length_hint__") >>= _) _ _ _
  refine wpAny_bind (wpAny_specialOf (T := "zip") ⟨_, hz0, rfl⟩ nohint_zip ?_)
  refine wpAny_pure ?_
  show wpAny _ _ (rule "list.extend.makes-room" >>= fun _ => Builtin.List.listTouch (.ref s.heap.objs.size) >>= fun _ =>
    again (.builtin "list.extend.loop" ⟨[.ref s.heap.objs.size, .ref z, .none], []⟩)) _ _ _
  refine wpAny_bind (wpAny_rule ?_)
  refine wpAny_bind ?_
  show wpAny _ _ (updateSeq s.heap.objs.size (·.push .none) >>= fun _ => updateSeq s.heap.objs.size (·.pop)) _ _ _
  refine wpAny_bind (wpAny_updateSeq hS₂ rfl ?_)
  have hS₃ := Heap.get?_update_self (Obj.mapSeq (·.push Value.none)) hS₂ rfl
  refine wpAny_updateSeq (hz := by seq_fits) hS₃ rfl ?_
  have hS₄ := Heap.get?_update_self (Obj.mapSeq (·.pop)) hS₃ rfl
  have oth2 : ∀ b o, b ≠ s.heap.objs.size → h2.get? b = some o → ((h2.update s.heap.objs.size (Obj.mapSeq (·.push Value.none))).update s.heap.objs.size (Obj.mapSeq (·.pop))).get? b = some o :=
    fun b o hb e => (Heap.get?_update_other _ _ (Ne.symm hb)).trans ((Heap.get?_update_other _ _ (Ne.symm hb)).trans e)
  have hsz2 : ((h2.update s.heap.objs.size (Obj.mapSeq (·.push Value.none))).update s.heap.objs.size (Obj.mapSeq (·.pop))).objs.size = s.heap.objs.size + 1 := by rw [(Heap.SameBut.update ..).1, (Heap.SameBut.update ..).1, hsz]
  refine wpAny_pure ⟨plainId_quiet PySem.F.plain_extend_loop _, ?_⟩
  refine zl_loop (s := s) (lo := s.heap.objs.size) (n := n) (f := f) (h₁ := s.heap) (A := A.in1) hh D ne l8 hSf hSl (fun b hb => Nat.le_of_lt (hlo b hb)) (Nat.le_refl _) hn .none (fun h' tk acc c as hk hS' hl hG hacc => ?_) n 0 _ s.toks _ #[] [] (Nat.sub_zero _) (Nat.zero_le _)
    (hst2.at D fun b hb o e => oth2 b o (fun q => hSf (by rw [← q]; exact hb)) e) ((hsr.at fun l hl o e => oth l o (fun q => hSl (by rw [← q]; exact hl)) e).at fun l hl o e => oth2 l o (fun q => hSl (by rw [← q]; exact hl)) e) (fun b o h1 h2 e => oth2 b o h1 (oth b o h1 e)) hS₄ rfl rfl ⟨List.Pairwise.nil, (fun _ ha => nomatch ha), (fun j a hj => by simp at hj)⟩ (by rw [hsz2]; exact Nat.lt_succ_self _)
  exact ⟨rfl, hQ h' tk acc c as (fun b o hb e => hk b o (Nat.ne_of_lt (Heap.lt_size e)) hb e) hS' hl hG hacc⟩
end
end Kh

set_option maxRecDepth 100000
set_option maxHeartbeats 2000000
namespace Kh
open PySem PySem.Spec PyProof.Rows L2
def putP : Hp → List Addr → List (V × V) → Hp
  | H, a :: as, p :: ps => putP (upd H a (.tup [p.1, p.2])) as ps
  | H, _, _ => H
theorem putP_off {b : Addr} : ∀ (as : List Addr) (ps : List (V × V)) (H : Hp), b ∉ as → putP H as ps b = H b
  | [], _, _, _ => rfl
  | _ :: _, [], _, _ => rfl
  | a :: as, p :: ps, H, h => by
    show putP (upd H a (.tup [p.1, p.2])) as ps b = H b
    rw [putP_off as ps _ (fun z => h (List.mem_cons_of_mem _ z)), upd_ne (fun z => h (by rw [z]; exact List.mem_cons_self))]
theorem putP_at : ∀ (as : List Addr) (ps : List (V × V)) (H : Hp), as.Nodup → ∀ (j : Nat) a p, as[j]? = some a → ps[j]? = some p → putP H as ps a = some (.tup [p.1, p.2])
  | [], _, _, _, j, a, p, h, _ => by simp at h
  | _ :: _, [], _, _, j, a, p, _, h => by simp at h
  | a :: as, q :: ps, H, hn, j, b, p, h1, h2 => by
    have hn' := List.nodup_cons.mp hn
    show putP (upd H a (.tup [q.1, q.2])) as ps b = _
    cases j with
    | zero => cases h1; cases h2; rw [putP_off as ps _ hn'.1, upd_same]
    | succ j => exact putP_at as ps _ hn'.2 j b p h1 h2
def tListZip (K : PySem.W.Frag) (ta : TA) : TE := fun σ H Q => ta σ H fun vs H1 => ∃ a b xs ys, vs = [.ref a, .ref b] ∧ SqL K H1 a xs ∧ SqL K H1 b ys ∧ xs.length = ys.length ∧ xs.length ≤ 1000 ∧
  ∀ (H' : Hp) (p : Addr) (ts : List Addr), (∀ b o, H1 b = some o → H' b = some o) → H1 p = none → (∀ t ∈ ts, H1 t = none) → p ∉ ts → H' p = some (.lst (ts.map V.ref)) → ts.length = xs.length →
    (∀ (j : Nat) t x y, ts[j]? = some t → xs[j]? = some x → ys[j]? = some y → H' t = some (.tup [x, y])) → Q (.ref p) H'
section
variable {X : Cx} {e1 e2 : Expr} {ta : TA} {p p2 cpos pos : Pos}
theorem pairs_laid {pins : List (Addr × Obj)} {σ : L2.St} {H : Hp} {s0 s : Shared} {h' : Heap} {tk : Nat} {ps : List (V × V)} {acc : Array Value} {c : Nat} {as : List Addr} {fp : List Addr} {f : Nat → List Value} (I : Inv X pins σ H s0) (hs0 : s = { s0 with heap := s.heap }) (hz : ps.length ≤ sizeLine)
    (hk : ∀ b o, s0.heap.get? b = some o → h'.get? b = some o) (le : s0.heap.objs.size ≤ s.heap.objs.size) (hS : h'.get? s.heap.objs.size = some { cls := .type "list", dict := none, data := .seq acc c, slots := #[] }) (hl : as.length = ps.length) (hG : ZlG f s.heap.objs.size h' as) (hacc : acc.toList = as.map Value.ref)
    (hf : ∀ (j : Nat) p, ps[j]? = some p → ∃ u v, f j = [u, v] ∧ RelV p.1 u ∧ RelV p.2 v) :
    ∃ H' : Hp, (∀ b o, H b = some o → H' b = some o) ∧ H s.heap.objs.size = none ∧ (∀ t ∈ as, H t = none) ∧ s.heap.objs.size ∉ as ∧ H' s.heap.objs.size = some (.lst (as.map V.ref)) ∧ (∀ (j : Nat) t p, as[j]? = some t → ps[j]? = some p → H' t = some (.tup [p.1, p.2])) ∧ Inv X pins σ H' { s0 with heap := h', toks := tk } := by
  have hSn : s.heap.objs.size ∉ as := fun z => Nat.lt_irrefl _ (hG.above _ z)
  have nd : as.Nodup := List.Pairwise.imp (fun {a b} (h : a < b) => Nat.ne_of_lt h) hG.rise
  have new : ∀ t ∈ as, H t = none := fun t ht => I.hok.fresh (Nat.le_trans le (Nat.le_of_lt (hG.above t ht)))
  have newS : H s.heap.objs.size = none := I.hok.fresh le
  have atP := putP_at as ps (upd H s.heap.objs.size (.lst (as.map V.ref))) nd
  have off : ∀ b, b ∉ as → b ≠ s.heap.objs.size → putP (upd H s.heap.objs.size (.lst (as.map V.ref))) as ps b = H b := fun b h1 h2 => by rw [putP_off as ps _ h1, upd_ne h2]
  have low : ∀ b o, s0.heap.get? b = some o → b ∉ as ∧ b ≠ s.heap.objs.size := fun b o e => ⟨fun z => absurd (Heap.lt_size e) (Nat.not_lt.mpr (Nat.le_trans le (Nat.le_of_lt (hG.above b z)))), Nat.ne_of_lt (Nat.lt_of_lt_of_le (Heap.lt_size e) le)⟩
  have kp : ∀ b u, H b = some u → (putP (upd H s.heap.objs.size (.lst (as.map V.ref))) as ps) b = some u := fun b u e => by
    rw [off b (fun z => by rw [new b z] at e; cases e) (fun z => by rw [z, newS] at e; cases e)]
    exact e
  have eS : putP (upd H s.heap.objs.size (.lst (as.map V.ref))) as ps s.heap.objs.size = some (.lst (as.map V.ref)) := by rw [putP_off as ps _ hSn, upd_same]
  refine ⟨putP (upd H s.heap.objs.size (.lst (as.map V.ref))) as ps, kp, newS, new, hSn, eS, atP, ?_⟩
  refine I.call' (ch := []) rfl ⟨fun b o q _ _ _ => hk b o q, fun b o q _ _ _ => ⟨o.slots, hk b o q⟩, fun b o q n _ => ?_, fun b o q _ => ⟨o, hk b o q⟩, fun b xs q => kp b _ q, fun b o u q => kp b _ q, fun b ps q => ⟨#[], by rw [kp b _ q]; simp⟩⟩ (fun b u q => ?_) I.bare fun b z => by simp at z
  · obtain ⟨z1, z2⟩ := low b o q
    rw [off b z1 z2]
    exact n
  · by_cases hb : b ∈ as
    · obtain ⟨j, e1⟩ := List.getElem?_of_mem hb
      have jl := (List.getElem?_eq_some_iff.mp e1).1
      obtain ⟨pk, e2⟩ : ∃ pk, ps[j]? = some pk := ⟨_, List.getElem?_eq_getElem (by omega)⟩
      rw [atP j b pk e1 e2] at q
      cases q
      obtain ⟨u, v, f1, f2, f3⟩ := hf j pk e2
      have g := hG.at_ j b e1
      rw [f1] at g
      exact ⟨by show 2 ≤ sizeLine; decide, [u, v], .cons f2 (.cons f3 .nil), ⟨_, g, rfl, _, rfl⟩⟩
    · by_cases hb2 : b = s.heap.objs.size
      · rw [hb2] at q ⊢
        rw [eS] at q
        cases q
        refine ⟨by rw [List.length_map]; omega, acc.toList, c, by rw [hacc]; exact LiI.vals_refs as, ?_⟩
        rw [Array.toArray_toList]
        exact hS
      · rw [off b hb hb2] at q
        exact (I.hok b u q).stay (fun d v _ y => hk d v y) (fun d y => kp d _ y) fun d xs y => kp d _ y
theorem pe_listZip (hc : X.calm = true) (hg : Gl X "list") (hm : X.mg "list" = none) (hv : bootBuiltins "list" = some (.type "list")) (hgz : Gl X "zip") (hmz : X.mg "zip" = none) (ha : PA X [e1, e2] ta)
    (hs2 : starEach [e1, e2] X.env = (false, eval e1 X.env) :: starEach [e2] X.env := by rfl) (hpl : (backTo cpos (starEach [e2] X.env)).any (·.1) = false := by rfl)
    (hs : starEach [.Call (.Name "zip" p2) [e1, e2] [] cpos] X.env = (false, eval (.Call (.Name "zip" p2) [e1, e2] [] cpos) X.env) :: starEach [] X.env := by rfl) :
    PE X (.Call (.Name "list" p) [.Call (.Name "zip" p2) [e1, e2] [] cpos] [] pos) (tListZip X.K ta) := by
  refine ⟨fun pins s σ H Q I hq => ?_⟩
  refine wpAny_Call_Name_kw (ld_blt I hg hm hv ?_)
  refine PyProof.Rows.callWith_type1 ?_ hs rfl
  rw [hs]
  show wpAny _ _ (spliced ((false, eval (.Call (.Name "zip" p2) [e1, e2] [] cpos) X.env) :: backTo pos (starEach [] X.env))) _ _ s
  refine Calls.spliced_cons ?_
  refine Call_ (ld_blt I hgz hmz PyProof.Rows.boot_zip (PyProof.Rows.callWith_type1 (thn (ha.run cpos pins s σ H _ I hq) fun us s1 ⟨vs, H1, I1, r1, q1⟩ => ?_) hs2 hpl))
  obtain ⟨a, b, xs, ys, ex, hqx, hqy, lxy, l1000, q⟩ := q1
  subst ex
  cases r1 with
  | cons r rr =>
    cases rr with
    | cons r' rr =>
      cases rr
      cases r
      cases r'
      obtain ⟨its, rv, p1, _⟩ := I1.list hqx
      obtain ⟨its2, rv2, p2, _⟩ := I1.list hqy
      have la : a < s1.heap.objs.size := p1.lt
      have lb : b < s1.heap.objs.size := p2.lt
      have k1 := rv.length
      have k2 := rv2.length
      refine call_zipN (ls := [a, b]) (show 2 ≤ 8 by omega) (fun l hl => ?_) fun h' st hk => ?_
      · rcases List.mem_cons.mp hl with rfl | hl
        · exact ⟨_, p1.isList⟩
        · rw [List.mem_singleton.mp hl]; exact ⟨_, p2.isList⟩
      have D := ap_zipN (n0 := s1.heap.objs.size) (ls := [a, b]) fun l hl => by
        rcases List.mem_cons.mp hl with rfl | hl
        · exact la
        · rw [List.mem_singleton.mp hl]; exact lb
      refine Calls.spliced_nil ?_
      have I2 : Inv X pins σ H1 { s1 with heap := h' } := I1.kept (t' := s1.toks) hk
      have hzl : s1.heap.objs.size + [a, b].length + 2 < h'.objs.size := by obtain ⟨f0, g0, hz, _⟩ := st.zip; exact Heap.lt_size hz
      have hfp : ∀ c ∈ (s1.heap.objs.size + [a, b].length + 2) :: (s1.heap.objs.size + [a, b].length) :: (s1.heap.objs.size + [a, b].length + 1) :: ((List.range [a, b].length).map fun k => s1.heap.objs.size + k), s1.heap.objs.size ≤ c ∧ c < h'.objs.size := fun c hcm => by
        have hz' : s1.heap.objs.size + 2 + 2 < h'.objs.size := hzl
        rcases List.mem_cons.mp hcm with rfl | hc
        · exact ⟨Nat.le_trans (Nat.le_add_right _ 2) (Nat.le_add_right _ 2), hz'⟩
        rcases List.mem_cons.mp hc with rfl | hc
        · exact ⟨Nat.le_add_right _ _, by show s1.heap.objs.size + 2 < _; exact Nat.lt_of_le_of_lt (Nat.le_add_right _ 2) hz'⟩
        rcases List.mem_cons.mp hc with rfl | hc
        · exact ⟨Nat.le_trans (Nat.le_add_right _ 2) (Nat.le_add_right _ 1), by show s1.heap.objs.size + 2 + 1 < _; exact Nat.lt_trans (Nat.lt_succ_self _) hz'⟩
        · obtain ⟨k, hk', rfl⟩ := List.mem_map.mp hc
          have : k < 2 := List.mem_range.mp hk'
          refine ⟨Nat.le_add_right _ _, Nat.lt_of_le_of_lt (Nat.add_le_add_left (Nat.le_of_lt this) _) (Nat.lt_of_le_of_lt (Nat.le_add_right _ 2) hz')⟩
      have at1 : ∀ c o, s1.heap.get? c = some o → c < s1.heap.objs.size := fun c o e => Heap.lt_size e
      refine zl_call (s := { s1 with heap := h' }) (n := xs.length) (f := fun i => [its.getD i .none, its2.getD i .none]) (I2.ok.hd hc) D (by simp) (by simp) st ⟨fun _ => rfl, fun i hi k l v h1 h2 => ?_, fun l h1 => ?_⟩ (fun c hcm => (hfp c hcm).2) (fun c hcm => ?_) (Nat.le_trans l1000 (by decide)) fun h3 tk acc c as hk3 hS hl hG hacc => ?_
      · match k with
        | 0 =>
          cases h1; cases h2
          exact ⟨_, p1.isList.at fun o e => hk _ o e, by rw [List.getElem?_toArray, List.getD_eq_getElem?_getD, List.getElem?_eq_getElem (by omega)]; rfl⟩
        | 1 =>
          cases h1; cases h2
          exact ⟨_, p2.isList.at fun o e => hk _ o e, by rw [List.getElem?_toArray, List.getD_eq_getElem?_getD, List.getElem?_eq_getElem (by omega)]; rfl⟩
        | k + 2 => simp at h1
      · cases h1
        exact ⟨_, p1.isList.at fun o e => hk _ o e, by rw [List.getElem?_toArray]; exact List.getElem?_eq_none (by omega)⟩
      · have hz' : s1.heap.objs.size < h'.objs.size := Nat.lt_of_le_of_lt (Nat.le_trans (Nat.le_add_right _ _) (Nat.le_add_right _ 2)) hzl
        rcases List.mem_cons.mp hcm with rfl | hcm
        · exact Nat.lt_trans la hz'
        · rw [List.mem_singleton.mp hcm]; exact Nat.lt_trans lb hz'
      · have hz' : s1.heap.objs.size ≤ h'.objs.size := Nat.le_of_lt (Nat.lt_of_le_of_lt (Nat.le_trans (Nat.le_add_right _ _) (Nat.le_add_right _ 2)) hzl)
        have lz : (xs.zip ys).length = xs.length := by rw [List.length_zip]; omega
        obtain ⟨H', k1', k2', k3', k4', k5', k6', J⟩ := pairs_laid (s := { s1 with heap := h' }) (tk := tk) (ps := xs.zip ys) (fp := []) I1 rfl (by rw [lz]; exact Nat.le_trans l1000 (by decide)) (fun b o e => hk3 b o (fun z => Nat.lt_irrefl _ (Nat.lt_of_lt_of_le (at1 b o e) (hfp b z).1)) (hk b o e)) hz' hS (by rw [lz]; exact hl) hG hacc fun j pq hj => by
          rw [List.getElem?_zip_eq_some] at hj
          obtain ⟨u, hu, ru⟩ := rv.get hj.1
          obtain ⟨u2, hu2, ru2⟩ := rv2.get hj.2
          exact ⟨u, u2, by rw [List.getD_eq_getElem?_getD, hu, List.getD_eq_getElem?_getD, hu2]; rfl, ru, ru2⟩
        exact ⟨.ref _, H', J, rfl, q H' _ as k1' k2' k3' k4' k5' hl fun j t x y e1 e2 e3 => k6' j t (x, y) e1 (by rw [List.getElem?_zip_eq_some]; exact ⟨e2, e3⟩)⟩
end
end Kh

set_option maxRecDepth 100000
set_option maxHeartbeats 4000000
namespace K31
open PySem PySem.Spec PyProof.Rows L2 Kh
section
variable {P : Program} {w : World} {K : PySem.W.Frag} {mg : Str → Option Value} {base : Heap} {a : Nat → Addr} {fd : Nat → FuncData} {C : Addr} {tk : Nat → Tok}
theorem t_k0 {n : Nat} {sp : Sp} {tk : TA} {σ : L2.St} {H : Hp} {Q : VK} (h : tk σ H fun zs H2 => zs.length = n ∧ sp zs H2 Q E0) : tCallK0 n sp tk σ H Q := h
theorem t_lz {ta : TA} {σ : L2.St} {H : Hp} {Q : VK} (h : ta σ H fun vs H1 => ∃ a b xs ys, vs = [.ref a, .ref b] ∧ SqL K H1 a xs ∧ SqL K H1 b ys ∧ xs.length = ys.length ∧ xs.length ≤ 1000 ∧
  ∀ (H' : Hp) (p : Addr) (ts : List Addr), (∀ b o, H1 b = some o → H' b = some o) → H1 p = none → (∀ t ∈ ts, H1 t = none) → p ∉ ts → H' p = some (.lst (ts.map V.ref)) → ts.length = xs.length →
    (∀ (j : Nat) t x y, ts[j]? = some t → xs[j]? = some x → ys[j]? = some y → H' t = some (.tup [x, y])) → Q (.ref p) H') : tListZip K ta σ H Q := h
theorem t_revL {te : TE} {σ : L2.St} {H : Hp} {Q : VK} (h : te σ H fun x H1 => ∃ a xs, x = .ref a ∧ SqL K H1 a xs ∧ ∀ p, H1 p = none → Q (.ref p) (upd H1 p (.lst xs.reverse))) : tRevL K te σ H Q := h
def pD (p : Nat × Nat) : PyData := .tuple [nD p.1, nD p.2]
/-- [x + y for x, y in pairs] -/
theorem lcAdd {S : Addr → Prop} {H : Hp} {σ : L2.St} {t : TE} {s1 s2 : Nat} {vs : List Nat} {Q : VK} (ps : List (Nat × Nat)) (kn : Kn S H)
    (hev : ∀ Q : VK, (∀ u H1, Same H H1 → Dp K (off S H1) u (.list (ps.map pD)) → Q u H1) → t σ H Q) (hn : ps.length ≤ 1000)
    (hw : ∀ x y, wipe (((wipe σ vs).set s1 (some x)).set s2 (some y)) vs = wipe σ vs) (hg : ∀ x y, (((wipe σ vs).set s1 (some x)).set s2 (some y))[s1]? = some (some x) ∧ (((wipe σ vs).set s1 (some x)).set s2 (some y))[s2]? = some (some y))
    (done : ∀ D H1, H D = none → Same H H1 → Dp K (off S H1) (.ref D) (nL (ps.map fun p => p.1 + p.2)) → Q (.ref D) H1) :
    tLc (fun σ H R => iList K t σ H R ∨ iTup K t σ H R) (gTup K 2 (gCons (gName s1) (gCons (gName s2) gNil))) tYes (tOp rAdd (tVar s1) (tVar s2)) vs σ H Q := by
  refine .inl (hev _ fun u H1 s du => ?_)
  obtain ⟨ra, xs, rfl, hsq, ha⟩ := list_at du
  have ln := dpa_len ha
  rw [List.length_map] at ln
  have kn1 := kn.same s
  refine ⟨ra, rfl, ⟨xs, off_sub.seq hsq⟩, fun D hD => ?_⟩
  have w : Walk (Itl K ra) xs.length (fun H' => Same (off S H1) H') (YAt xs) := walk_list.mono (fun H' z => z.seq hsq) fun _ _ _ _ _ _ y => y
  refine wlk w (fun x H' Nx => gTup K 2 (gCons (gName s1) (gCons (gName s2) gNil)) x (wipe σ vs) H' fun σ2 H2 => wipe σ2 vs = wipe σ vs ∧ tYes σ2 H2 fun b H3 => if b = true then tOp rAdd (tVar s1) (tVar s2) σ2 H3 fun y H4 => ∃ acc, H4 D = some (.lst acc) ∧ acc.length < sizeLine ∧ Nx (upd H4 D (.lst (acc ++ [y]))) else Nx H3)
    (fun i H' => Same H1 H' ∧ H' D = some (.lst (ivs ((ps.take i).map fun p => p.1 + p.2)))) ⟨same_new hD, upd_same⟩ (fun i H' _ ⟨z, _⟩ => off_sub.trans z) ?_ ?_
  · rintro i x H2 H3 hi ⟨z, hd⟩ ⟨rfl, xi⟩
    obtain ⟨d, dj, dx⟩ := dpa_at ha xi
    obtain ⟨p, hj, hm, rfl⟩ := at_map dj
    obtain ⟨r, us, rfl, hs, hu⟩ := tup_at (dp_same (off_plus hD z) _ _ dx)
    obtain - | ⟨h1, - | ⟨h2, ⟨⟩⟩⟩ := hu
    cases h1
    cases h2
    have hl : (ivs ((ps.take i).map fun p => p.1 + p.2)).length ≤ 1000 := by simp [ivs, List.length_take]; omega
    refine ⟨r, _, rfl, same_t off_sub hs, rfl, _, _, rfl, _, _, rfl, rfl, hw _ _, t_yes (t_op (t_var (hg _ _).1 (t_var (hg _ _).2 ⟨_, _, rfl, rfl, _, hd, Nat.lt_of_le_of_lt hl (by decide), smut z hD, ?_⟩)))⟩
    rw [upd_same, take_snoc' hj, List.map_append]
    simp [ivs]
  · rintro H2 ⟨z, hd⟩
    rw [ln, List.take_length] at hd
    exact done D H2 (s.free hD) (s.trans z) (dp_lst (kn1.new hD) hd (nats_dpa _))
theorem shp_nL {m : List Nat} : SeqAt.shaped (nL m) = true := shaped_nL m
theorem eqD_self {S : Addr → Prop} {H : Hp} {u v : V} {m : List Nat} {Q : VK} (h1 : Dp K (off S H) u (nL m)) (h2 : Dp K (off S H) v (nL m)) (q : Q (.bl true) H) : rEqD K u v H Q := by
  refine ⟨_, _, dp_same off_sub _ _ h1, dp_same off_sub _ _ h2, shaped_nL _, shaped_nL _, ?_⟩
  rw [eqv_nL]; exact q
def numsD (t : Kh.T) : List PyData := [nD (meets t).length, nL (std t), nD (meets (con t)).length, nL (std t)]
theorem nice_nums {t : Kh.T} (h : preW t) : Nice 4000 2 (.list (numsD t)) := by
  have m1 := meets_few h.1
  have m2 := meets_few (t := con t) (by rw [mem_con]; exact h.1)
  have n1 : Nice 808 1 (nD (meets t).length) := (nice_int (by omega)).mono (by omega) (by omega)
  have n3 : Nice 808 1 (nD (meets (con t)).length) := (nice_int (by omega)).mono (by omega) (by omega)
  have n2 : Nice 808 1 (nL (std t)) := nice_nLs (std_small h.1) (by unfold std; rw [sz_len]; have := h.1; omega)
  exact nice_list (n := 4000) (m := 1) ((niceA_cons n1 (niceA_cons n2 (niceA_cons n3 (niceA_cons n2 (niceA_nil.mono (Nat.le_refl _) (Nat.zero_le _)))))).mono (by omega) (by omega))
def spNumR (K : PySem.W.Frag) (C : Addr) : Sp := fun vs H Q _ => ∃ (S : Addr → Prop) (t : Kh.T) (x : Addr) (v vt vn vf : V), vs = [.ref x, v, vt, vn, vf] ∧ Kn S H ∧ TreeAt K C (off S H) t x ∧ Okt t ∧ preW t ∧ Dp K (off S H) v (tD t) ∧ Dp K (off S H) vt (nL (mem t)) ∧ Dp K (off S H) vn (nLL (smeets t)) ∧ Dp K (off S H) vf (nLL (smeets (con t))) ∧ ∀ H', Same H H' → Q (.bl true) H'
theorem ok__law_numbers_right (T : Txt K mg a fd C tk) (U : TxC K mg a C) (kw_how_many : KBn K (fd 24) ["tree"] 0 ["tree"] (fun us ws => us ++ ws) (fun vs zs => vs ++ zs)) (kw_standing : KBn K (fd 28) ["tree"] 0 ["tree"] (fun us ws => us ++ ws) (fun vs zs => vs ++ zs)) : FnG P w K mg base 15 (a 55) (fd 55) ["_law_plant", "_law_sketch", "_law_tags", "_law_near", "_law_far"] (spNumR K C) := by
  have G__law_lists := ok__law_lists (P := P) (w := w) (base := base) T
  have G__law_stands := ok__law_stands (P := P) (w := w) (base := base) T 6
  have G_how_many := ok_how_many (P := P) (w := w) (base := base) T U
  have G_standing := ok_standing (P := P) (w := w) (base := base) T U
  have G_Tree_invert := ok_Tree_invert (P := P) (w := w) (base := base) T U
  refine fun_okG T.F__law_numbers_right sc__law_numbers_right (fun vs H Q E h => by obtain ⟨_, _, _, _, _, _, _, rfl, _⟩ := h; rfl) (fun cdv A outer s H vs Q E hg hr h => ?_)
  obtain ⟨S, t, x, v, vt, vn, vf, rfl, kn, ht, ok, pre, hd, dt, dn, df, q⟩ := h
  have m7 := pre.1
  have dt' : Dp K (off S H) vt (.list ((mem t).map nD)) := dt
  refine ⟨_, (pss_cons (ps_set (i := 5) sc__law_numbers_right.nd rfl (Or.inl rfl) (pe_op op_rep (pe_lst (pa_cons pe_int pa_nil)) (pe_op op_add (pe_callB (k_len (K := K)) (by rfl) T.z_len (by decide +kernel) (pa_cons (pv 2) pa_nil)) pe_int)))
      (pss_cons (ps_for PassesOwn.never rfl (k_pi (K := K) (pe_call G__law_lists (hr.mono (by omega)) (by rfl) T.m__law_lists T.F__law_lists.kp T.b__law_lists .nil pass0 (pa_cons (pv 2) pa_nil))) (pg_name (i := 6) sc__law_numbers_right.nd rfl (Or.inl rfl))
        (pss_one (ps_asg (pe_op op_add (pe_ix (k_ix (K := K)) (pv 5) (pe_callB (k_len (K := K)) (by rfl) T.z_len (by decide +kernel) (pa_cons (pv 6) pa_nil)) (fun _ _ => rfl)) (pe_callTy call_int1R (by rfl) T.z_int (by decide +kernel) (pa_cons (pe_call G__law_stands (hr.mono (by omega)) (by rfl) T.m__law_stands T.F__law_stands.kp T.b__law_stands .nil pass0 (pa_cons (pv 1) (pa_cons (pv 6) pa_nil))) pa_nil))) (pg_sub (pv 5) (pe_callB (k_len (K := K)) (by rfl) T.z_len (by decide +kernel) (pa_cons (pv 6) pa_nil)) set_list))))
      (pss_cons (ps_set (i := 7) sc__law_numbers_right.nd rfl (Or.inl rfl) (pe_lst (pa_cons (pe_call G_how_many (hr.mono (by omega)) (by rfl) T.m_how_many T.F_how_many.kp T.b_how_many .nil pass0 (pa_cons (pv 0) pa_nil)) (pa_cons (pe_call G_standing (hr.mono (by omega)) (by rfl) T.m_standing T.F_standing.kp T.b_standing .nil pass0 (pa_cons (pv 0) pa_nil)) (pa_cons (pe_kw0 (ks := ["tree"]) G_how_many (hr.mono (by omega)) (by rfl) T.m_how_many T.F_how_many.kp kw_how_many (pk_cons (pe_un (un_invI (runsOk G_Tree_invert T.b_Tree_invert) (hr.mono (by omega)) U.me_invert) (pv 0)) pk_nil)) (pa_cons (pe_kw0 (ks := ["tree"]) G_standing (hr.mono (by omega)) (by rfl) T.m_standing T.F_standing.kp kw_standing (pk_cons (pv 0) pk_nil)) pa_nil))))))
      (pss_cons (ps_set (i := 8) sc__law_numbers_right.nd rfl (Or.inl rfl) (pe_lst (pa_cons (pe_callB (k_len (K := K)) (by rfl) T.z_len (by decide +kernel) (pa_cons (pv 3) pa_nil)) (pa_cons (pv 5) (pa_cons (pe_callB (k_len (K := K)) (by rfl) T.z_len (by decide +kernel) (pa_cons (pv 4) pa_nil)) (pa_cons (pv 5) pa_nil))))))
      (pss_cons (ps_if (pt_cmpR op_ne (pe_callB (cr_reprD hg hr.units) (by rfl) T.z_repr (by decide +kernel) (pa_cons (pv 7) pa_nil)) (pe_callB (cr_reprD hg hr.units) (by rfl) T.z_repr (by decide +kernel) (pa_cons (pv 8) pa_nil)) (nomark _))
        (pss_one (ps_ret pe_bl)) pss_nil)
      (pss_cons (ps_par (i := 9) (j := 10) (by rfl) sc__law_numbers_right.nd rfl rfl (by decide) rfl rfl (pa_cons (pe_listZip rfl (by rfl) T.z_list (by rfl) (by rfl) T.z_zip (pa_cons (pe_call G_standing (hr.mono (by omega)) (by rfl) T.m_standing T.F_standing.kp T.b_standing .nil pass0 (pa_cons (pv 0) pa_nil)) (pa_cons (pe_revL (pe_call G_standing (hr.mono (by omega)) (by rfl) T.m_standing T.F_standing.kp T.b_standing .nil pass0 (pa_cons (pe_un (un_invI (runsOk G_Tree_invert T.b_Tree_invert) (hr.mono (by omega)) U.me_invert) (pv 0)) pa_nil))) pa_nil))) (pa_cons (pe_lst (pa_cons pe_int pa_nil)) pa_nil)) (by rfl))
      (pss_cons (ps_for PassesOwn.never rfl (pi_range1 (by rfl) T.z_range (pa_cons (pe_callB (k_len (K := K)) (by rfl) T.z_len (by decide +kernel) (pa_cons (pv 2) pa_nil)) pa_nil)) (pg_name (i := 11) sc__law_numbers_right.nd rfl (Or.inl rfl))
        (pss_one (ps_setLc (i := 10) (own := [("_law_here", 12), ("_law_there", 13)]) (g := gTup K 2 (gCons (gName 12) (gCons (gName 13) gNil))) (tt := tYes) rfl sc__law_numbers_right.nd rfl rfl (sw_true rfl rfl rfl (by decide +kernel)) (pi_zip (by rfl) T.z_zip (pa_cons (pe_op (k_catS (K := K)) (pe_lst (pa_cons pe_int pa_nil)) (pv 10)) (pa_cons (pe_op (k_catS (K := K)) (pv 10) (pe_lst (pa_cons pe_int pa_nil))) pa_nil))) (blkOk_by (own := [("_law_here", 12), ("_law_there", 13)]) (N := _law_numbers_right_N) (sc := defScope _law_numbers_right_s) (by decide +kernel)) (fun _ _ _ _ _ => (pg_tup rfl (pgs_cons (pg_name (i := 12) sc__law_numbers_right.nd rfl (Or.inl rfl)) (pgs_cons (pg_name (i := 13) sc__law_numbers_right.nd rfl (Or.inl rfl)) pgs_nil)))) (fun _ _ _ _ _ => pts_nil) (fun _ _ _ _ _ => (pe_op op_add (pv 12) (pv 13))))))
      (pss_cons (ps_expr (pe_bm PySem.F.plainAttrs_list PySem.F.slot_list_append PySem.F.type_list_append mt_append (pe_call G_standing (hr.mono (by omega)) (by rfl) T.m_standing T.F_standing.kp T.b_standing .nil pass0 (pa_cons (pv 0) pa_nil)) (pa_cons pe_int pa_nil)))
      (pss_one (ps_ret (pe_and (pe_cmpR (k_eqD (K := K) hr.units) (pe_lc (own := [("_law_here", 12), ("_law_there", 13)]) (g := gTup K 2 (gCons (gName 12) (gCons (gName 13) gNil))) (tt := tYes) rfl sc__law_numbers_right.nd (k_pi (K := K) (pv 9)) (blkOk_by (own := [("_law_here", 12), ("_law_there", 13)]) (N := _law_numbers_right_N) (sc := defScope _law_numbers_right_s) (by decide +kernel)) (fun _ _ _ _ _ => (pg_tup rfl (pgs_cons (pg_name (i := 12) sc__law_numbers_right.nd rfl (Or.inl rfl)) (pgs_cons (pg_name (i := 13) sc__law_numbers_right.nd rfl (Or.inl rfl)) pgs_nil)))) (fun _ _ _ _ _ => pts_nil) (fun _ _ _ _ _ => (pe_op op_add (pv 12) (pv 13)))) (pv 10) (nomark _)) (pe_one (pe_cmpR (k_eqD (K := K) hr.units) (pe_call G_standing (hr.mono (by omega)) (by rfl) T.m_standing T.F_standing.kp T.b_standing .nil pass0 (pa_cons (pv 0) pa_nil)) (pv 5) (nomark _)))))))))))))), ?_⟩
  refine s_seq (s_set (t_op (t_lst (a_cons (t_c (a_nil ⟨le1, fun p1 hp1 => ?_⟩))))))
  have sp1 := same_new (o := HO.lst [V.int 0]) hp1
  have hp1' : (upd H p1 (.lst [V.int 0])) p1 = some (.lst [V.int 0]) := upd_same
  generalize upd H p1 (.lst [V.int 0]) = H1 at *
  refine t_op (t_cb1 (t_var rfl (len_d off_sub (dp_same (off_same sp1) _ _ dt') rfl (t_c ⟨_, _, rfl, rfl, ?_⟩))))
  have eN : (((mem t).map nD).length : Int) + 1 = (((mem t).length + 1 : Nat) : Int) := by rw [List.length_map]; omega
  refine ⟨p1, (((mem t).length + 1 : Nat) : Int), _, rfl, congrArg V.int eN, hp1', by omega, by omega, ?_, fun D hD => nx_of ?_⟩
  · rw [Int.toNat_natCast]
    show 1 * _ ≤ sizeLine
    exact Nat.le_trans (by omega) (show 1000 ≤ sizeLine by decide)
  rw [rep0]
  have hDn : H D = none := sp1.free hD
  have nS : ¬ S D := kn.new hDn
  have sN := same_new (o := HO.lst (ivs (List.replicate ((mem t).length + 1) 0))) hD
  have hU : (upd H1 D (.lst (ivs (List.replicate ((mem t).length + 1) 0)))) D = some (.lst (ivs (List.replicate ((mem t).length + 1) 0))) := upd_same
  have s02 := sp1.trans sN
  have kn0 : Kn (plus S D) (upd H1 D (.lst (ivs (List.replicate ((mem t).length + 1) 0)))) := (kn.same s02).plus (some_ne hU)
  have hd0 : Dp K (off (plus S D) (upd H1 D (.lst (ivs (List.replicate ((mem t).length + 1) 0))))) v (tD t) := dp_same ((off_same sp1).trans (off_plus hD sN)) _ _ hd
  have dt0 : Dp K (off (plus S D) (upd H1 D (.lst (ivs (List.replicate ((mem t).length + 1) 0))))) vt (nL (mem t)) := dp_same ((off_same sp1).trans (off_plus hD sN)) _ _ dt
  generalize upd H1 D (.lst (ivs (List.replicate ((mem t).length + 1) 0))) = H2 at *
  refine s_seq (forM (S := plus S D) false (llists (mem t)) nL kn0 (fun Q q => t_call1 (t_var rfl ⟨plus S D, mem t, kn0, .cons dt0 .nil, by show (mem t).length ≤ 8; omega, fun u H3 s3 d3 => q u H3 s3 d3⟩)) fun H3 s3 kn3 => ?_)
  refine ⟨fun i σ' H' => ∃ x6 x7 x8 x9 x10 x11 x12 x13, σ' = [some (.ref x), some v, some vt, some vn, some vf, some (.ref D), x6, x7, x8, x9, x10, x11, x12, x13] ∧ Same H H' ∧ H' D = some (.lst (ivs (sz (mem t).length (((llists (mem t)).take i).filter fun m => st m t)))) ∧ SameBut D H3 H', ⟨_, _, _, _, _, _, _, _, rfl, s02.trans s3, by rw [List.take_zero, List.filter_nil, sz_nil]; exact s3 _ _ hU, sbut (Same.refl _)⟩, fun i σ' H' ⟨_, _, _, _, _, _, _, _, _, _, _, sb⟩ => off_sb sb, ?_, ?_⟩
  · rintro i m y σ' H' mi hi hm dx ⟨x6, x7, x8, x9, x10, x11, x12, x13, rfl, sH, hv, sb⟩
    have knH : Kn (plus S D) H' := (kn.same sH).plus (some_ne hv)
    have dx' := dp_same (off_but sb) _ _ dx
    have hd' := dp_same (off_but sb) _ _ (dp_same (off_same s3) _ _ hd0)
    have lm := (llists_mem.mp hm).length_le
    have stp := cL_filt mi fun m => st m t
    have dm8 : Dp K (off S H') y (.list (m.map nD)) := dp_same off_fin _ _ dx'
    refine g_name (s_asgg (t_op (t_op (t_var rfl (t_cb1 (t_var rfl (len_d off_sub dm8 rfl (ix_d (i := (m.map nD).length) off_sub (dp_lst nS hv (nats_dpa (sz (mem t).length (((llists (mem t)).take i).filter fun m => st m t)))) rfl (get_nD (by rw [List.length_map, sz_len]; omega)) fun z dz => ?_))))))))
    rw [List.length_map, sz_get _ _ _ (by omega)] at dz
    cases dz
    refine t_cb1 (t_call2 (t_var rfl (t_var rfl ⟨plus S D, (t, false, m), knH, .cons hd' (.cons dx' .nil), preOf ok, fun b H8 s8 db => ?_⟩)))
    replace db : Dp K (off (plus S D) H8) b (.bool (st m t)) := db
    cases db
    have sb8 : SameBut D H3 H8 := fun c o n h => s8 c o (sb c o n h)
    have hv8 := s8 _ _ hv
    have sH8 := sH.trans s8
    have dm9 := dp_same (off_same s8) _ _ dm8
    refine .inr ⟨_, rfl, ⟨_, _, rfl, rfl, t_var rfl (t_cb1 (t_var rfl (len_d off_sub dm9 rfl ⟨D, _, _, m.length, rfl, rfl, hv8, by rw [List.length_map, List.length_map]; exact ixN_ok (by rw [sz_len]; omega), ?_⟩)))⟩⟩
    refine nx_of ⟨_, _, _, _, _, _, _, _, rfl, smut sH8 hDn, ?_, bmut sb8⟩
    rw [upd_same]
    refine Eq.trans ?_ (congrArg (fun z => some (HO.lst z)) (sz_step (if st m t = true then 1 else 0) lm _ (fun q => stp q)))
    cases st m t <;> rfl
  rintro σ' H4 ⟨x6, x7, x8, x9, x10, x11, x12, x13, rfl, sH, hv, sb⟩
  rw [List.take_length, std_all] at hv
  refine nx_of ?_
  clear sb hd0 dt0 kn0 kn3 s3
  have kn4 := kn.same sH
  have ht4 := ht.same (off_same sH)
  have hd4 := dp_same (off_same sH) _ _ hd
  have dt4 : Dp K (off S H4) vt (.list ((mem t).map nD)) := dp_same (off_same sH) _ _ dt
  have dn4 : Dp K (off S H4) vn (.list ((smeets t).map nL)) := dp_same (off_same sH) _ _ dn
  have df4 : Dp K (off S H4) vf (.list ((smeets (con t)).map nL)) := dp_same (off_same sH) _ _ df
  have dD4 : Dp K (off S H4) (.ref D) (nL (std t)) := dp_lst nS hv (nats_dpa _)
  have htA : ∀ {H'}, Same H4 H' → TreeAt K C (off S H') t x := fun {H'} s => ht4.same (off_same s)
  have knA : ∀ {H'}, Same H4 H' → Kn S H' := fun {H'} s => kn4.same s
  have preC := preW_con pre
  have okC := okt_con ok
  have nice := nice_nums pre
  have q4 : ∀ H', Same H4 H' → Q (.bl true) H' := fun H' s => q H' (sH.trans s)
  clear hd dt dn df dt' kn ht q sH hDn nS hv
  refine s_seq (s_set (t_lst (a_cons (t_call1 (t_var rfl ⟨S, t, x, (), [], rfl, kn4, ht4, ok, .nil, pre, fun u1 H5 s5 d5 => ?_⟩)))))
  replace d5 : Dp K (off S H5) u1 (nD (meets t).length) := d5
  refine a_cons (t_call1 (t_var rfl ⟨S, t, x, rfl, knA s5, htA s5, ok, pre, fun u2 H6 s6 d6 => ?_⟩))
  have s46 := s5.trans s6
  have d6' := d6.dp (K := K) (knA s5)
  refine a_cons (t_k0 (a_cons (t_inv rfl (knA s46) (htA s46) ok fun y H7 s7 hy => a_nil ⟨rfl, S, con t, y, (), [], rfl, (knA s46).same s7, hy, okC, .nil, preC, fun u3 H8 s8 d8 => ?_⟩)))
  replace d8 : Dp K (off S H8) u3 (nD (meets (con t)).length) := d8
  have s48 := s46.trans (s7.trans s8)
  refine a_cons (t_k0 (a_cons (t_var rfl (a_nil ⟨rfl, S, t, x, rfl, knA s48, htA s48, ok, pre, fun u4 H9 s9 d9 => a_nil ⟨le4, fun pt hpt => nx_of ?_⟩⟩))))
  have s49 := s48.trans s9
  have d9' := d9.dp (K := K) (knA s48)
  have dTold := dp_newL (K := K) (ds := numsD t) (knA s49) hpt (.cons (dp_same (off_same (s6.trans (s7.trans (s8.trans s9)))) _ _ d5) (.cons (dp_same (off_same (s7.trans (s8.trans s9))) _ _ d6') (.cons (dp_same (off_same s9) _ _ d8) (.cons d9' .nil))))
  have sT := same_new (o := HO.lst [u1, u2, u3, u4]) hpt
  have s410 := s49.trans sT
  generalize upd H9 pt (.lst [u1, u2, u3, u4]) = H10 at *
  clear d5 d6 d6' d8 d9 d9'
  refine s_seq (s_set (t_lst (a_cons (t_cb1 (t_var rfl (len_d off_sub (dp_same (off_same s410) _ _ dn4) rfl (a_cons (t_var rfl (a_cons (t_cb1 (t_var rfl (len_d off_sub (dp_same (off_same s410) _ _ df4) rfl (a_cons (t_var rfl (a_nil ⟨le4, fun pd hpd => nx_of ?_⟩)))))))))))))))
  have e1 : ((List.map nL (smeets t)).length : Int) = (((meets t).length : Nat) : Int) := by rw [List.length_map, (smeets_perm t).length_eq]
  have e2 : ((List.map nL (smeets (con t))).length : Int) = (((meets (con t)).length : Nat) : Int) := by rw [List.length_map, (smeets_perm _).length_eq]
  have dDue := dp_newL (K := K) (ds := numsD t) (knA s410) hpd (.cons (dp_int e1) (.cons (dp_same (off_same s410) _ _ dD4) (.cons (dp_int e2) (.cons (dp_same (off_same s410) _ _ dD4) .nil))))
  have sDu := same_new (o := HO.lst [V.int ((List.map nL (smeets t)).length : Int), V.ref D, V.int ((List.map nL (smeets (con t))).length : Int), V.ref D]) hpd
  have s411 := s410.trans sDu
  have dTold' := dp_same (off_same sDu) _ _ dTold
  generalize upd H10 pd (.lst [V.int ((List.map nL (smeets t)).length : Int), V.ref D, V.int ((List.map nL (smeets (con t))).length : Int), V.ref D]) = H11 at *
  refine s_seq (s_if (b_test (t_op (t_cb1 (t_var rfl ⟨_, _, rfl, tells_list (dp_same off_sub _ _ dTold') nice (by decide) (by decide), t_cb1 (t_var rfl ⟨_, _, rfl, tells_list (dp_same off_sub _ _ dDue) nice (by decide) (by decide), ne_self ⟨_, rfl, ifF rfl (s_next ?_)⟩⟩)⟩)))))
  clear dTold dTold' dDue e1 e2
  refine s_seq (a_cons (t_lz (a_cons (t_call1 (t_var rfl ⟨S, t, x, rfl, knA s411, htA s411, ok, pre, fun u1' H12 s12 d12 => a_cons (t_revL (t_call1 (t_inv rfl (knA (s411.trans s12)) (htA (s411.trans s12)) ok fun y H13 s13 hy => ⟨S, con t, y, rfl, (knA (s411.trans s12)).same s13, hy, okC, preC, fun u2' H14 s14 d14 => ?_⟩)))⟩)))))
  obtain ⟨l1, rfl, hn1, h1⟩ := d12
  obtain ⟨l2, rfl, hn2, h2⟩ := d14
  have s414 := (s411.trans s12).trans (s13.trans s14)
  have len1 : (std t).length = (mem t).length + 1 := sz_len _ _
  have len2 := std_con_mem t
  refine ⟨l2, _, rfl, sqL h2, fun p hp => a_nil ⟨l1, p, ivs (std t), (ivs (std (con t))).reverse, rfl, sqL ((same_new hp) _ _ ((s13.trans s14) _ _ h1)), sqL upd_same, by simp [ivs, len1, len2], by simp [ivs, len1]; omega, fun H15 Pz ts hs hP hts hPt hPl hl hpair => a_cons (t_lst (a_cons (t_c (a_nil ⟨le1, fun r hr => a_nil ⟨_, _, rfl, nx_of ?_⟩⟩))))⟩⟩
  have s415 : Same H4 H15 := s414.trans ((same_new hp).trans hs)
  have sr := same_new (o := HO.lst [V.int 1]) hr
  have dRow := dp_newL (K := K) (ds := [.int (1 : Nat)]) (knA s415) hr (.cons (.int _) .nil)
  have kn14 : Kn S (upd H14 p (.lst (ivs (std (con t))).reverse)) := (knA s414).same (same_new hp)
  have dBoth : Dp K (off S H15) (.ref Pz) (.list (((std t).zip (std (con t)).reverse).map pD)) := by
    refine dp_lst (kn14.new hP) hPl (dpa_of ?_ fun i x d hx hd => ?_)
    · rw [List.length_map, List.length_map, List.length_zip, hl]
      simp [ivs, len1, len2]
    · rw [List.getElem?_map] at hx hd
      cases ht' : ts[i]? with
      | none => rw [ht'] at hx; cases hx
      | some t' =>
        rw [ht'] at hx; cases hx
        cases hz : ((std t).zip (std (con t)).reverse)[i]? with
        | none => rw [hz] at hd; cases hd
        | some pq =>
          rw [hz] at hd; cases hd
          rw [List.getElem?_zip_eq_some] at hz
          have := hpair i t' (.int ((pq.1 : Nat) : Int)) (.int ((pq.2 : Nat) : Int)) ht' (by unfold ivs; rw [List.getElem?_map, hz.1]; rfl) (by unfold ivs; rw [← List.map_reverse, List.getElem?_map, hz.2]; rfl)
          exact dp_tup (kn14.new (hts t' (List.mem_of_getElem? ht'))) this (.cons (.int _) (.cons (.int _) .nil))
  have dBoth' := dp_same (off_same sr) _ _ dBoth
  have s416 := s415.trans sr
  generalize upd H15 r (.lst [V.int 1]) = H16 at *
  clear hpair hPl hts hPt hs hp hr hP dBoth h1 h2 hn1 hn2 kn14
  refine s_seq ?_
  show iRng1 (tCons _ tNil) _ _ _
  refine r_rng (a_cons (t_cb1 (t_var rfl (len_d off_sub (dp_same (off_same s416) _ _ dt4) rfl (a_nil ⟨_, rfl, by rw [List.length_map]; omega, by rw [List.length_map]; omega, ?_⟩)))))
  refine for_it walk_range (fun i σ' H' => ∃ u10 x11 x12 x13, σ' = [some (.ref x), some v, some vt, some vn, some vf, some (.ref D), x6, some (.ref pt), some (.ref pd), some (.ref Pz), some u10, x11, x12, x13] ∧ Same H16 H' ∧ Dp K (off S H') u10 (nL (tri (mem t) i))) ⟨_, _, _, _, rfl, Same.refl _, by
    have : tri (mem t) 0 = [1] := by simp [tri, sz, cL, lists_nil]
    rw [this]; exact dRow⟩ (fun _ _ _ _ _ => trivial) ?_ ?_
  · rintro i x0 σ' Ha Hb hi ⟨u10, x11, x12, x13, rfl, sa, da⟩ ⟨rfl, rfl⟩
    have hi' : i < (mem t).length := by simpa using hi
    have kna := knA (s416.trans sa)
    have lt : (tri (mem t) i).length = i + 1 := sz_len _ _
    refine g_name (s_set (lcZ ([0] ++ tri (mem t) i) (tri (mem t) i ++ [0]) nD nD (fun z => nD (z.1 + z.2)) kna (fun Q q => ?_) (by simp [lt]; omega) (fun _ _ => rfl) (fun m n mn y1 y2 H17 S17 s17 kn17 dy1 dy2 hS ho Q q => ?_) fun Dn H17 ys hD17 s17 hd17 d17 => ⟨_, _, _, _, rfl, sa.trans s17, ?_⟩))
    · refine a_cons (t_op (t_lst (a_cons (t_c (a_nil ⟨le1, fun p3 hp3 => t_var rfl ?_⟩)))))
      have s3' := same_new (o := HO.lst [V.int 0]) hp3
      refine cat_d (ds := [0].map nD) (es := (tri (mem t) i).map nD) (kna.same s3') (dp_newL kna hp3 (.cons (.int _) .nil)) (dp_same (off_same s3') _ _ da) (by simp [lt]; omega) fun w1 Hc sc dc => a_cons (t_op (t_var rfl (t_lst (a_cons (t_c (a_nil ⟨le1, fun p4 hp4 => ?_⟩))))))
      have s4' := same_new (o := HO.lst [V.int 0]) hp4
      have s34 := s3'.trans sc
      refine cat_d (ds := (tri (mem t) i).map nD) (es := [0].map nD) ((kna.same s34).same s4') (dp_same (off_same (s34.trans s4')) _ _ da) (dp_newL (kna.same s34) hp4 (.cons (.int _) .nil)) (by simp [lt]; omega) fun w2 Hd sd dd => a_nil (q _ _ _ ((s34.trans s4').trans sd) ?_ ?_)
      · rw [List.map_append]; exact dp_same (off_same (s4'.trans sd)) _ _ dc
      · rw [List.map_append]; exact dd
    · cases dy1
      cases dy2
      exact t_op (t_var rfl (t_var rfl ⟨_, _, rfl, rfl, q _ _ (Same.refl _) (dp_int (by simp))⟩))
    · rw [← tri_step (List.getElem?_eq_getElem hi')]
      unfold nL
      rw [List.map_map]
      exact d17
  rintro σ' Ha ⟨u10, x11, x12, x13, rfl, sa, da⟩
  have en : (((List.map nD (mem t)).length : Nat) : Int).toNat = (mem t).length := by rw [List.length_map]; rfl
  rw [en] at da
  have et : tri (mem t) (mem t).length = sz (mem t).length (lists (mem t)) := by unfold tri; rw [List.take_length]
  rw [et] at da
  have s4a := s416.trans sa
  refine nx_of (s_seq (s_drop (t_bm (t_call1 (t_var rfl ⟨S, t, x, rfl, knA s4a, htA s4a, ok, pre, fun ua Hb sb db => ?_⟩)))))
  obtain ⟨la, rfl, hna, hla⟩ := db
  refine ⟨.inl ⟨rfl, _, sqL hla⟩, a_cons (t_c (a_nil ⟨la, _, _, rfl, rfl, hla, ?_, nx_of ?_⟩))⟩
  · exact Nat.lt_of_le_of_lt (show (ivs (std t)).length ≤ 1000 by simp [ivs, len1]; omega) (by decide)
  have sab := smut (o := HO.lst (ivs (std t) ++ [V.int 1])) sb hna
  generalize upd Hb la (.lst (ivs (std t) ++ [V.int 1])) = Hc at *
  have s4c := s4a.trans sab
  refine s_ret (t_andV (t_op (lcAdd ((std t).zip (std (con t)).reverse) (knA s4c) (fun Q q => t_var rfl (q _ _ (Same.refl _) (dp_same (off_same (sa.trans sab)) _ _ dBoth'))) (by rw [List.length_zip]; omega) (fun _ _ => rfl) (fun _ _ => ⟨rfl, rfl⟩) fun De He hDe se de => t_var rfl ?_)))
  rw [both_row ok.1] at de
  refine eqD_self de (dp_same (off_same (sab.trans se)) _ _ da) ⟨_, rfl, ifT rfl ?_⟩
  have s4e := s4c.trans se
  exact t_op (t_call1 (t_var rfl ⟨S, t, x, rfl, knA s4e, htA s4e, ok, pre, fun uf Hf sf df' => t_var rfl (eqD_self (df'.dp (knA s4e)) (dp_same (off_same (s4e.trans sf)) _ _ dD4) (q4 _ (s4e.trans sf)))⟩))
end
end K31

set_option maxRecDepth 100000
set_option maxHeartbeats 2000000
/-! repr of what is no list, too, and of a dict of numbers -/
namespace Kh
open PySem PySem.Spec PyProof.Rows L2
def dicO (ks : List Nat) : List (Key × V) := ks.map fun k => (Sum.inl ((k : Nat) : Int), V.int 0)
def dicK (ks : List Nat) : List (PyData × PyData) := ks.map fun k => (.int (k : Nat), .int (0 : Nat))
def dicD (ks : List Nat) : PyData := .dict (dicK ks)
theorem dicK_ok : ∀ (ks : List Nat), (∀ k ∈ ks, k < 256) → PyData.leavesShortKv 8 (dicK ks) = true ∧ PyData.weightKv (dicK ks) ≤ 300 * ks.length ∧ PyData.depthKv (dicK ks) = 0 ∧ PyData.showableKv (dicK ks) = true
  | [], _ => ⟨by simp [dicK, PyData.leavesShortKv], by simp [dicK, PyData.weightKv], by simp [dicK, PyData.depthKv], by simp [dicK, PyData.showableKv]⟩
  | k :: ks, h => by
    obtain ⟨h1, h2, h3, h4⟩ := dicK_ok ks fun k hk => h k (List.mem_cons_of_mem _ hk)
    have n1 := nice_int (h k List.mem_cons_self)
    have n2 := nice_int (n := 0) (by decide)
    have e : dicK (k :: ks) = (.int (k : Nat), .int (0 : Nat)) :: dicK ks := rfl
    have w1 := n1.wt
    have w2 := n2.wt
    have d1 : PyData.depth (.int (k : Nat)) = 0 := by simp [PyData.depth]
    have d2 : PyData.depth (.int (0 : Nat)) = 0 := by simp [PyData.depth]
    refine ⟨?_, ?_, ?_, ?_⟩
    · rw [e, PyData.leavesShortKv, n1.sh, n2.sh, h1]; rfl
    · rw [e, PyData.weightKv, List.length_cons]; omega
    · rw [e, PyData.depthKv, d1, d2, h3]; rfl
    · rw [e, PyData.showableKv, n1.sw, n2.sw, h4]; rfl
theorem dic_reads {h : Heap} {d : Addr} {ks : List Nat} {P : Program} {w : World} {vs : List (Key × Value)} (kv : KV (dicO ks) vs) (hd : h.DictOf (mixKind P w) d vs) : Reads h (.ref d) (dicD ks) [d] := by
  obtain ⟨o, es, ep, e1, e2, e3, _, hp, _⟩ := hd
  have keys : ∀ (ks : List Nat) (vs : List (Key × Value)) (es : List DictEntry), KV (dicO ks) vs → Pairs (mixKind P w) es vs → ReadsAll h (es.map (·.key)) ((dicK ks).map (·.1)) [] ∧ ReadsAll h (es.map (·.val)) ((dicK ks).map (·.2)) [] := by
    intro ks
    induction ks with
    | nil => intro vs es kv hp; cases kv; cases hp; exact ⟨.nil, .nil⟩
    | cons k ks ih =>
      intro vs es kv hp
      cases kv with
      | cons r t =>
        cases hp with
        | cons hk hv tp =>
          obtain ⟨i1, i2⟩ := ih _ _ t tp
          obtain ⟨r1, r2⟩ := r
          rw [← r1] at hk
          have hk' : keyIs (Sum.inl ((k : Nat) : Int)) _ = true := hk
          obtain ⟨tk, ek⟩ := Value.isInt_shape (k := ((k : Nat) : Int)) hk'
          obtain ⟨tv, ev⟩ : ∃ t, _ = Value.int 0 t := r2
          refine ⟨?_, ?_⟩
          · show ReadsAll h (_ :: _) (_ :: _) ([] ++ [])
            refine .cons ?_ i1
            show Reads h (DictEntry.key _) _ _
            rw [ek]; exact .int _ _
          · show ReadsAll h (_ :: _) (_ :: _) ([] ++ [])
            refine .cons ?_ i2
            show Reads h (DictEntry.val _) _ _
            rw [hv, ev]; exact .int _ _
  obtain ⟨i1, i2⟩ := keys ks vs es.toList kv hp
  exact Reads.dict (as := []) (bs := []) e1 e2.1 e3 i1 i2
def rReprX (K : PySem.W.Frag) : List V → Hp → VK → Prop := fun vs H Q => ∃ v, vs = [v] ∧ ((∃ d, (Dp K H v d ∧ ∃ n m, Nice n m d ∧ n ≤ 1000000 ∧ m ≤ 60) ∧ Q (.str d.shown) H) ∨
  ∃ a ks, v = .ref a ∧ H a = some (.dK (dicO ks)) ∧ ks.length ≤ 100 ∧ (∀ k ∈ ks, k < 256) ∧ Q (.str (dicD ks).shown) H)
section
variable {X : Cx}
theorem cr_reprX (hg : X.A.guards = some []) (hu : X.A.units + 64 < cLine) : CallR X (.builtin "repr") (rReprX X.K) := by
  intro pins s σ H vs us Q I r h
  obtain ⟨v, rfl, h⟩ := h
  obtain ⟨u, rfl, ru⟩ := r.one
  rcases h with ⟨d, ⟨hd, n, m, hn, hn1, hm1⟩, q⟩ | ⟨a, ks, rfl, ha, hl, hk, q⟩
  · have ru0 := ru
    have hd0 := hd
    cases hd with
    | non =>
      cases (show u = Value.none from ru)
      rw [PyData.shown] at q
      exact PySem.P.repr_of_none ⟨.str "None", H, I.tok _, ⟨_, rfl⟩, q⟩
    | bl b =>
      cases (show u = Value.bool b from ru)
      rw [PyData.shown] at q
      exact PySem.P.repr_of_bool ⟨.str (if b then "True" else "False"), H, I.tok _, ⟨_, rfl⟩, q⟩
    | int i =>
      obtain ⟨t, rfl⟩ := ru
      have hz : i.natAbs.log2 < 1920 := by have := hn.sw; rw [PyData.showable] at this; exact of_decide_eq_true this
      rw [PyData.shown] at q
      exact PySem.P.repr_of_int hz ⟨.str (toString i), H, I.tok _, ⟨_, rfl⟩, q⟩
    | str x =>
      obtain ⟨t, rfl⟩ := ru
      have hf := hn.fits hn1
      rw [PyData.shown] at q hf
      exact PySem.P.repr_of_str ⟨.str (reprText x), H, I.tok _, ⟨_, rfl⟩, q⟩ hf
    | lst hs ha =>
      cases ru
      obtain ⟨as, rd⟩ := Dp.reads I _ _ _ hd0 ru0
      refine repr_of_reads' rd hn.sw (fun z => by rw [hn.nd] at z; cases z) hg (by have := hn.dp; omega) (fun _ _ z => z) (fun h' u tk kp => ?_) (hn.fits hn1)
      exact ⟨.str _, H, I.kept (t' := tk) kp, ⟨u, rfl⟩, q⟩
    | tup hs ha =>
      cases ru
      obtain ⟨as, rd⟩ := Dp.reads I _ _ _ hd0 ru0
      refine repr_of_reads' rd hn.sw (fun z => by rw [hn.nd] at z; cases z) hg (by have := hn.dp; omega) (fun _ _ z => z) (fun h' u tk kp => ?_) (hn.fits hn1)
      exact ⟨.str _, H, I.kept (t' := tk) kp, ⟨u, rfl⟩, q⟩
  · obtain rfl : u = Value.ref a := ru
    obtain ⟨hz, hs0, vs, kv, hdo⟩ := I.hok a _ ha
    obtain ⟨k1, k2, k3, k4⟩ := dicK_ok ks hk
    have rd := dic_reads kv hdo
    have hsm : sysModules ∉ [a] := fun z => by
      rw [List.mem_singleton.mp z] at hs0
      rw [beq_self_eq_true] at hs0; cases hs0
    refine repr_of_reads' rd (by unfold dicD; rw [PyData.showable]; exact k4) (fun _ => hsm) hg (by unfold dicD; rw [PyData.depth, k3]; omega) (fun _ _ z => z) (fun h' u tk kp => ?_) ?_
    · exact ⟨.str _, H, I.kept (t' := tk) kp, ⟨u, rfl⟩, q⟩
    · refine PyData.shown_fits (B := 8) (by decide) (by decide) (by unfold dicD; rw [PyData.leavesShort]; exact k1) ?_
      unfold dicD
      rw [PyData.weight]
      exact Nat.le_trans k2 (Nat.le_trans (Nat.mul_le_mul_left _ hl) (by decide))
end
end Kh

set_option maxRecDepth 100000
set_option maxHeartbeats 4000000
namespace K31
open PySem PySem.Spec PyProof.Rows L2 Kh
def addU (l : List Nat) (n : Nat) : List Nat := if n ∈ l then l else l ++ [n]
def uqF (l ns : List Nat) : List Nat := ns.foldl addU l
def uq (ns : List Nat) : List Nat := uqF [] ns
theorem uq_snoc (ns : List Nat) (n : Nat) : uq (ns ++ [n]) = addU (uq ns) n := by unfold uq uqF; rw [List.foldl_append]; rfl
theorem addU_len (l : List Nat) (n : Nat) : (addU l n).length ≤ l.length + 1 := by unfold addU; split <;> simp
theorem uqF_len (ns : List Nat) : ∀ l, (uqF l ns).length ≤ l.length + ns.length := by
  induction ns with
  | nil => intro l; exact Nat.le_refl _
  | cons n ns ih => intro l; have := ih (addU l n); have := addU_len l n; show (uqF (addU l n) ns).length ≤ _; rw [List.length_cons]; omega
theorem uq_len (ns : List Nat) : (uq ns).length ≤ ns.length := by have := uqF_len ns []; rw [List.length_nil, Nat.zero_add] at this; exact this
theorem uqF_mem (ns : List Nat) : ∀ l x, x ∈ uqF l ns ↔ x ∈ l ∨ x ∈ ns := by
  induction ns with
  | nil => intro l x; show x ∈ l ↔ _; simp
  | cons n ns ih =>
    intro l x
    show x ∈ uqF (addU l n) ns ↔ _
    rw [ih]
    unfold addU
    by_cases h : n ∈ l
    · rw [if_pos h, List.mem_cons]
      constructor
      · rintro (a | a); exact .inl a; exact .inr (.inr a)
      · rintro (a | a | a); exact .inl a; exact .inl (by rw [a]; exact h); exact .inr a
    · rw [if_neg h, List.mem_append, List.mem_singleton, List.mem_cons, or_assoc]
theorem uqF_iff (ns : List Nat) : ∀ l, (uqF l ns).length = l.length + ns.length ↔ (ns.Nodup ∧ ∀ n ∈ ns, n ∉ l) := by
  induction ns with
  | nil => intro l; show l.length = _ ↔ _; simp
  | cons n ns ih =>
    intro l
    show (uqF (addU l n) ns).length = _ ↔ _
    have le := uqF_len ns (addU l n)
    by_cases h : n ∈ l
    · have e : addU l n = l := by unfold addU; rw [if_pos h]
      rw [e] at le ⊢
      constructor
      · intro z; rw [List.length_cons] at z; omega
      · rintro ⟨_, z⟩; exact (z n List.mem_cons_self h).elim
    · have e : addU l n = l ++ [n] := by unfold addU; rw [if_neg h]
      rw [e]
      have := ih (l ++ [n])
      rw [List.length_append] at this
      rw [List.length_cons, show l.length + (ns.length + 1) = l.length + [n].length + ns.length by simp; omega, this, List.nodup_cons]
      constructor
      · rintro ⟨a, b⟩
        refine ⟨⟨fun z => b n z (by simp), a⟩, fun m hm => ?_⟩
        rcases List.mem_cons.mp hm with rfl | hm
        · exact h
        · exact fun z => b m hm (List.mem_append_left _ z)
      · rintro ⟨⟨a, b⟩, c⟩
        refine ⟨b, fun m hm z => ?_⟩
        rcases List.mem_append.mp z with z | z
        · exact c m (List.mem_cons_of_mem _ hm) z
        · rw [List.mem_singleton.mp z] at hm; exact a hm
theorem uq_iff (ns : List Nat) : (uq ns).length = ns.length ↔ ns.Nodup := by
  have := uqF_iff ns []
  rw [List.length_nil, Nat.zero_add] at this
  exact ⟨fun h => (this.mp h).1, fun h => this.mpr ⟨h, fun _ _ z => nomatch z⟩⟩
/-- putK at a key with the one value -/
theorem putU (v : V) (us : List Nat) (n : Nat) : putK (us.map fun n : Nat => ((Sum.inl ((n : Nat) : Int) : Key), v)) (Sum.inl ((n : Nat) : Int)) v = (addU us n).map fun n : Nat => ((Sum.inl ((n : Nat) : Int) : Key), v) := by
  have e : ((us.map fun n : Nat => ((Sum.inl ((n : Nat) : Int) : Key), v)).any fun kv => decide (kv.1 = Sum.inl ((n : Nat) : Int))) = decide (n ∈ us) := by
    induction us with
    | nil => rfl
    | cons m us ih =>
      rw [List.map_cons, List.any_cons, ih]
      by_cases h : m = n
      · subst h; simp
      · have h1 : ¬ ((Sum.inl ((m : Nat) : Int) : Key) = Sum.inl ((n : Nat) : Int)) := fun z => h (by have := Sum.inl.inj z; omega)
        have h2 : ¬ n = m := fun z => h z.symm
        simp [h1, h2]
  unfold putK addU
  rw [e]
  by_cases h : n ∈ us
  · rw [if_pos (decide_eq_true h), if_pos h, List.map_map]
    refine List.map_congr_left fun m _ => ?_
    show (if _ then _ else _) = _
    split <;> rfl
  · rw [if_neg (by rw [decide_eq_false h]; exact Bool.false_ne_true), if_neg h, List.map_append]; rfl
/-- things -/
inductive Th where
  | dat (d : PyData)
  | dic (ks : List Nat)
def ThAt (K : PySem.W.Frag) (H : Hp) (v : V) : Th → Prop
  | .dat d => Dp K H v d
  | .dic ks => ∃ a, v = .ref a ∧ H a = some (.dK (dicO ks))
theorem ThAt.same {K : PySem.W.Frag} {H H' : Hp} {v : V} (e : Same H H') : ∀ {th : Th}, ThAt K H v th → ThAt K H' v th
  | .dat d, h => dp_same e _ _ h
  | .dic ks, ⟨a, e1, e2⟩ => ⟨a, e1, e _ _ e2⟩
def isListT : Th → Bool
  | .dat d => isListD d
  | .dic _ => false
def toN : PyData → Nat
  | .int i => i.toNat
  | _ => 0
def itemsT : Th → Option (List PyData)
  | .dat d => items d
  | .dic _ => none
def natsT (th : Th) : Option (List Nat) := match itemsT th with
  | some ds => if ds.all (belowD 24) = true then some (ds.map toN) else none
  | none => none
def hsT (ms : List Nat) (th : Th) : Bool := match natsT th with
  | some ns => decide ns.Nodup && ns.all fun n => decide (n ∈ ms)
  | none => false
def meetT (t : Kh.T) (th : Th) : Bool := match natsT th with
  | some ns => (decide ns.Nodup && ns.all fun n => decide (n ∈ mem t)) && barely t ns
  | none => false
theorem natsT_none {th : Th} (h : itemsT th = none) : natsT th = none := by unfold natsT; rw [h]
theorem natsT_no {th : Th} {ds : List PyData} (h : itemsT th = some ds) (e : ds.all (belowD 24) = false) : natsT th = none := by
  unfold natsT; rw [h]; simp only; rw [if_neg (by rw [e]; exact Bool.false_ne_true)]
theorem natsT_yes {th : Th} {ds : List PyData} (h : itemsT th = some ds) (e : ds.all (belowD 24) = true) : natsT th = some (ds.map toN) := by
  unfold natsT; rw [h]; simp only; rw [if_pos e]
theorem hsT_none {ms : List Nat} {th : Th} (h : natsT th = none) : hsT ms th = false := by unfold hsT; rw [h]
theorem hsT_some {ms ns : List Nat} {th : Th} (h : natsT th = some ns) : hsT ms th = (decide ns.Nodup && ns.all fun n => decide (n ∈ ms)) := by unfold hsT; rw [h]
theorem meetT_none {t : Kh.T} {th : Th} (h : natsT th = none) : meetT t th = false := by unfold meetT; rw [h]
theorem meetT_some {t : Kh.T} {ns : List Nat} {th : Th} (h : natsT th = some ns) : meetT t th = ((decide ns.Nodup && ns.all fun n => decide (n ∈ mem t)) && barely t ns) := by unfold meetT; rw [h]
theorem below_nat {d : PyData} (h : belowD 24 d = true) : d = nD (toN d) ∧ toN d < 24 := by
  cases d with
  | int i =>
    simp [belowD] at h
    refine ⟨?_, ?_⟩
    · show PyData.int i = .int ((i.toNat : Nat) : Int)
      congr 1; omega
    · show i.toNat < 24
      omega
  | _ => simp [belowD] at h
theorem below_nats : ∀ {ds : List PyData}, ds.all (belowD 24) = true → ds = (ds.map toN).map nD
  | [], _ => rfl
  | d :: ds, h => by
    rw [List.all_cons, Bool.and_eq_true] at h
    rw [List.map_cons, List.map_cons, ← below_nats h.2, ← (below_nat h.1).1]
theorem items_list {d : PyData} : (items d).isSome = isListD d := by cases d <;> rfl
theorem items_sq' {d : PyData} {ds : List PyData} (h : items d = some ds) : ∃ b, d = sq b ds := by
  cases d with
  | list es => cases h; exact ⟨false, rfl⟩
  | tuple es => cases h; exact ⟨true, rfl⟩
  | _ => cases h
end K31

set_option maxRecDepth 100000
set_option maxHeartbeats 4000000
namespace K31
open PySem PySem.Spec PyProof.Rows L2 Kh
section
variable {P : Program} {w : World} {K : PySem.W.Frag} {mg : Str → Option Value} {base : Heap} {a : Nat → Addr} {fd : Nat → FuncData} {C : Addr} {tk : Nat → Tok}
theorem tyx_dic {H : Hp} {p : Addr} {ks : List Nat} (h : H p = some (.dK (dicO ks))) : TyX K H (.ref p) (.type "dict") := .base (.dK h)
theorem isi2_dic {H : Hp} {p r : Addr} {ks : List Nat} {n m : String} {b c : Bool} {Q : VK} (h : H r = some (.dK (dicO ks))) (hp : H p = some (.tup [.ty n, .ty m])) (hk : kitB "dict" n = some b) (hc : kitB "dict" m = some c) (q : Q (.bl (b || c)) H) : rIsiT K [.ref r, .ref p] H Q := by
  refine ⟨.ref r, p, [.ty n, .ty m], .type "dict", [.type n, .type m], b || c, rfl, hp, .cons (.ty n) (.cons (.ty m) .nil), tyx_dic h, ?_, q⟩
  refine kitAny_cons (kit_ty hk) (fun hb => ?_) (fun hb => by rw [hb]; rfl)
  refine kitAny_cons (kit_ty hc) (fun hd => ?_) (fun hd => by rw [hd]; cases b <;> rfl)
  rw [hb, hd]; exact kitAny_nil
def spIsListT (K : PySem.W.Frag) : Sp := fun vs H Q _ => ∃ (S : Addr → Prop) (th : Th) (v : V), vs = [v] ∧ Kn S H ∧ ThAt K (off S H) v th ∧ ∀ H', Same H H' → Q (.bl (isListT th)) H'
theorem ok_is_listT (T : Txt K mg a fd C tk) : FnOk P w K mg base CX0 1 (a 2) (fd 2) ["value"] (spIsListT K) := by
  refine T.F_is_list.ok sc_is_list (fun vs H Q E h => by obtain ⟨_, _, _, rfl, _⟩ := h; rfl) (fun cdv A outer s H vs Q E hr h => ?_)
  obtain ⟨S, th, v, rfl, kn, hd, q⟩ := h
  refine ⟨_, (pss_one (ps_ret (pe_callB (k_isiT (K := K)) (by rfl) T.z_isinstance (by decide +kernel) (pa_cons (pv 0) (pa_cons (pe_tup (pa_cons (pe_bltn (v := .ty "list") (by rfl) T.z_list (by decide +kernel) rfl) (pa_cons (pe_bltn (v := .ty "tuple") (by rfl) T.z_tuple (by decide +kernel) rfl) pa_nil))) pa_nil))))), ?_⟩
  refine s_ret (t_cb (a_cons (t_var rfl (a_cons (t_tup (a_cons (t_c (a_cons (t_c (a_nil ⟨le2, fun p hp => a_nil ?_⟩)))))))))) 
  cases th with
  | dat d => exact isi2_d (off_sub.trans (same_new hp)) hd upd_same (kit_list d) (kit_tup d) (q _ (same_new hp))
  | dic ks =>
    obtain ⟨r, rfl, hr⟩ := hd
    exact isi2_dic ((same_new hp) _ _ (off_sub _ _ hr)) upd_same (by decide +kernel : kitB "dict" "list" = some false) (by decide +kernel : kitB "dict" "tuple" = some false) (q _ (same_new hp))
def spHousesT (K : PySem.W.Frag) : Sp := fun vs H Q _ => ∃ (S : Addr → Prop) (ms : List Nat) (th : Th) (v1 v2 : V), vs = [v1, v2] ∧ Kn S H ∧ Dp K (off S H) v1 (nL ms) ∧ ThAt K (off S H) v2 th ∧ (∀ ds, itemsT th = some ds → ds.length ≤ 1000) ∧ ∀ H', Same H H' → Q (.bl (hsT ms th)) H'
theorem ok_are_housesT (T : Txt K mg a fd C tk) : FnOk P w K mg base CX0 4 (a 12) (fd 12) ["members", "value"] (spHousesT K) := by
  have G_is_list := ok_is_listT (P := P) (w := w) (base := base) T
  have G_is_number_below : FnOk P w K mg base CX0 3 (a 3) (fd 3) ["value", "many"] (spBelow K) := ok_is_number_below T
  refine T.F_are_houses.ok sc_are_houses (fun vs H Q E h => by obtain ⟨_, _, _, _, _, rfl, _⟩ := h; rfl) (fun cdv A outer s H vs Q E hr h => ?_)
  obtain ⟨S, ms, th, vm, v, rfl, kn, hm, ht, hlen, q⟩ := h
  refine ⟨_, (pss_cons (ps_if (PW.pt (pw_or (pt_not (pt_val (pe_call G_is_list (hr.mono (by omega)) (by rfl) T.m_is_list T.F_is_list.kp T.b_is_list .nil pass0 (pa_cons (pv 1) pa_nil)))) (pw_or1 (pt_not (pt_val (pe_callB (k_all (K := K) rfl) (by rfl) T.z_all (by decide +kernel) (pa_cons (pe_lc (own := [("house", 3)]) (g := gName 3) (tt := tYes) rfl sc_are_houses.nd (k_pi (K := K) (pv 1)) (blkOk_by (own := [("house", 3)]) (N := are_houses_N) (sc := defScope are_houses_s) (by decide +kernel)) (fun _ _ _ _ _ => (pg_name (i := 3) sc_are_houses.nd rfl (Or.inl rfl))) (fun _ _ _ _ _ => pts_nil) (fun _ _ _ _ _ => (pe_call G_is_number_below (hr.mono (by omega)) (by rfl) T.m_is_number_below T.F_is_number_below.kp T.b_is_number_below .nil pass0 (pa_cons (pv 3) (pa_cons (pe_glob (v := .int 24) (by rfl) T.m_HOUSES ⟨_, rfl⟩) pa_nil))))) pa_nil)))))))
        (pss_one (ps_ret pe_bl)) pss_nil)
      (pss_cons (ps_setDc (i := 2) (own := [("house", 3)]) (g := gName 3) (tt := tYes) rfl sc_are_houses.nd rfl rfl (sw_dict rfl rfl rfl (by decide +kernel)) (k_pi (K := K) (pv 1)) (blkOk_by (own := [("house", 3)]) (N := are_houses_N) (sc := defScope are_houses_s) (by decide +kernel)) (fun _ _ _ _ _ => (pg_name (i := 3) sc_are_houses.nd rfl (Or.inl rfl))) (fun _ _ _ _ _ => pts_nil) (fun _ _ _ _ _ => (pv 3)) (fun _ _ _ _ _ => pe_bl))
      (pss_one (ps_ret (pe_and (pe_cmpR op_eq (pe_callB call_lenD (by rfl) T.z_len (by decide +kernel) (pa_cons (pv 2) pa_nil)) (pe_callB (k_len (K := K)) (by rfl) T.z_len (by decide +kernel) (pa_cons (pv 1) pa_nil)) (nomark _)) (pe_one (pe_callB (k_all (K := K) rfl) (by rfl) T.z_all (by decide +kernel) (pa_cons (pe_lc (own := [("house", 3)]) (g := gName 3) (tt := tYes) rfl sc_are_houses.nd (k_pi (K := K) (pv 1)) (blkOk_by (own := [("house", 3)]) (N := are_houses_N) (sc := defScope are_houses_s) (by decide +kernel)) (fun _ _ _ _ _ => (pg_name (i := 3) sc_are_houses.nd rfl (Or.inl rfl))) (fun _ _ _ _ _ => pts_nil) (fun _ _ _ _ _ => (pe_cmpR (k_in (K := K)) (pv 3) (pv 0) (by rfl)))) pa_nil)))))))), ?_⟩
  refine s_seq (s_if (b_or (b_not (b_val (t_call1 (t_var rfl ⟨S, th, v, rfl, kn, ht, fun H1 s1 => ⟨_, rfl, ?_⟩⟩))))))
  have no : isListT th = false → hsT ms th = false := fun e => by
    cases th with
    | dic ks => rfl
    | dat d =>
      have : items d = none := by
        have := items_list (d := d)
        rw [show isListD d = false from e] at this
        cases h : items d with
        | none => rfl
        | some ds => rw [h] at this; cases this
      exact hsT_none (natsT_none this)
  cases el : isListT th with
  | false =>
    refine ifT rfl (s_ret (t_c ?_))
    rw [no el] at q
    exact q H1 s1
  | true =>
  refine ifF rfl ?_
  cases th with
  | dic ks => cases el
  | dat d =>
  obtain ⟨ds, hds⟩ : ∃ ds, items d = some ds := by
    have := items_list (d := d)
    rw [show isListD d = true from el] at this
    cases h : items d with
    | none => rw [h] at this; cases this
    | some ds => exact ⟨ds, rfl⟩
  obtain ⟨c, rfl⟩ := items_sq' hds
  have l1000 := hlen ds hds
  replace ht : Dp K (off S H) v (sq c ds) := ht
  have kn1 := kn.same s1
  have hm1 := dp_same (off_same s1) _ _ hm
  have hd1 := dp_same (off_same s1) _ _ ht
  refine b_not (b_val (t_cb1 (lcM c ds (fun d => d) (fun d => .bool (belowD 24 d)) kn1 (fun Q q => t_var rfl (q _ _ (Same.refl _) (by rw [List.map_id']; exact hd1))) (by omega) (fun _ => rfl) (fun d0 hd0 x H2 S' s2 kn2 dx hS hoff Q q => ?_) fun D H2 ys hD s2 hd2 h2 => ?_)))
  · exact t_call2 (t_var rfl (t_c (spP_bl off_sub (d0, (24 : Int)) (DpAll.cons dx (DpAll.cons (Dp.int 24) DpAll.nil)) trivial rfl fun H3 s3 => q _ _ s3 (.bl _))))
  refine all_d (bs := ds.map (belowD 24)) off_sub (by rw [List.map_map]; exact h2) ⟨_, rfl, ?_⟩
  have s12 := s1.trans s2
  have eall : (ds.map (belowD 24)).all id = ds.all (belowD 24) := by rw [List.all_map]; rfl
  rw [eall]
  cases ea : ds.all (belowD 24) with
  | false =>
    refine ifT rfl (s_ret (t_c ?_))
    have : hsT ms (.dat (sq c ds)) = false := hsT_none (natsT_no hds ea)
    rw [this] at q
    exact q H2 s12
  | true =>
  refine ifF rfl (s_next ?_)
  have eds := below_nats ea
  have eq : hsT ms (.dat (sq c ds)) = (decide (ds.map toN).Nodup && (ds.map toN).all fun n => decide (n ∈ ms)) := hsT_some (natsT_yes hds ea)
  rw [eq] at q
  generalize ds.map toN = ns at *
  subst eds
  have kn2 := kn1.same s2
  have hd2' := dp_same (off_same s2) _ _ hd1
  have hm2 := dp_same (off_same s2) _ _ hm1
  have ln : ns.length ≤ 1000 := by simpa using l1000
  refine s_seq (s_set (t_dc (it_any (b := c) (ds := ns.map nD) (S := S) (fun Q q => t_var rfl (q _ _ (Same.refl _) hd2')) fun J xs H3 s3 ha w U hU => ?_)))
  have ex := dpa_ints (ns := ns.map fun m : Nat => ((m : Nat) : Int)) (by rw [← nD_map]; exact ha)
  have lx : xs.length = ns.length := by rw [ex]; simp
  refine wlk w (fun x H' Nx => gName 3 x (wipe (L2.start are_houses_N [vm, v]) [3]) H' fun σ2 H2 => wipe σ2 [3] = wipe (L2.start are_houses_N [vm, v]) [3] ∧ tYes σ2 H2 fun b H3 => if b = true then tVar 3 σ2 H3 fun y H4 => tC (.bl true) σ2 H4 fun z H5 => ∃ kvs k, y = kV k ∧ H5 U = some (.dK kvs) ∧ kvs.length < sizeLine ∧ Nx (upd H5 U (.dK (putK kvs k z))) else Nx H3)
    (fun i H' => H' U = some (.dK ((uq (ns.take i)).map fun n : Nat => ((Sum.inl ((n : Nat) : Int) : Key), V.bl true))) ∧ Same H3 H') ⟨upd_same, same_new hU⟩ (fun i H' _ h => off_sub.trans h.2) ?_ fun H4 h4 => ?_
  · rintro i x H4 H5 hi ⟨hU4, s4⟩ ⟨rfl, xi⟩
    rw [lx] at hi
    rw [ex, List.map_map, List.getElem?_map, List.getElem?_eq_getElem hi] at xi
    cases xi
    refine ⟨rfl, t_yes (t_var rfl (t_c ⟨_, Sum.inl ((ns[i] : Nat) : Int), rfl, hU4, ?_, ?_, smut s4 hU⟩))⟩
    · have := uq_len (ns.take i)
      rw [List.length_take] at this
      rw [List.length_map]
      exact Nat.lt_of_le_of_lt (show (uq (ns.take i)).length ≤ 1000 by omega) (by decide)
    · rw [putU, upd_same, take_snoc' (List.getElem?_eq_getElem hi), uq_snoc]
  obtain ⟨hU4, s4⟩ := h4
  rw [lx, List.take_length] at hU4
  have sm : Same H2 H4 := s3.trans s4
  have hd4 := dp_same (off_same sm) _ _ hd2'
  have hm4 := dp_same (off_same sm) _ _ hm2
  refine nx_of ?_
  refine s_ret (t_andV (t_op (t_cb (a_cons (t_var rfl (a_nil ?_))))))
  refine ⟨U, _, rfl, hU4, ?_⟩
  refine t_cb1 (t_var rfl ?_)
  refine len_d off_sub hd4 (items_sq c _) ?_
  refine ⟨rfl, ?_⟩
  have s14 := s12.trans sm
  refine bl_if (fun e => ?_) (fun e => ?_)
  · have e' := of_decide_eq_true e
    have nd : ns.Nodup := (uq_iff ns).mp (by have := V.int.inj e'; rw [List.length_map, List.length_map] at this; omega)
    refine t_cb1 (lcM c ns nD (fun n => .bool (decide (n ∈ ms))) (kn2.same sm) (fun Q q => t_var rfl (q _ _ (Same.refl _) hd4)) (by omega) (fun _ => rfl) (fun n hn x H5 S' s5 kn5 dx hS hoff Q q => ?_) fun D' H5 ys' hD' s5 hd5 h5 => ?_)
    · cases dx
      exact t_op (t_var rfl (t_var rfl (in_nL (dp_same hoff _ _ hm4) (q _ _ (Same.refl _) (.bl _)))))
    · refine all_d (bs := ns.map fun n => decide (n ∈ ms)) off_sub (by rw [List.map_map]; exact h5) ?_
      have := q H5 (s14.trans s5)
      rw [decide_eq_true nd, Bool.true_and] at this
      rw [List.all_map]; exact this
  · have e' := of_decide_eq_false e
    have nd : ¬ ns.Nodup := fun z => e' (by
      have := (uq_iff ns).mpr z
      rw [List.length_map, List.length_map, this])
    have := q H4 s14
    rw [decide_eq_false nd, Bool.false_and] at this
    exact this
def spMeetT (K : PySem.W.Frag) (C : Addr) (g : Kh.T → Kh.T) : Sp := fun vs H Q _ => ∃ (S : Addr → Prop) (t : Kh.T) (x : Addr) (th : Th) (v : V), vs = [.ref x, v] ∧ Kn S H ∧ TreeAt K C (off S H) t x ∧ Okt t ∧ ThAt K (off S H) v th ∧ (∀ ds, itemsT th = some ds → ds.length ≤ 1000) ∧ ∀ H', Same H H' → Q (.bl (meetT (g t) th)) H'
theorem ok_is_meeting (T : Txt K mg a fd C tk) (U : TxC K mg a C) : FnOk P w K mg base CX0 10 (a 34) (fd 34) ["tree", "value"] (spMeetT K C fun t => t) := by
  have G_are_houses := ok_are_housesT (P := P) (w := w) (base := base) T
  have G_stands_barely := ok_stands_barely (P := P) (w := w) (base := base) T
  have G_Tree_shape := ok_Tree_shape (P := P) (w := w) (base := base) T U
  have G_Tree_members := ok_Tree_members (P := P) (w := w) (base := base) T U
  obtain ⟨pS, hpS⟩ := U.p_shape
  refine T.F_is_meeting.ok sc_is_meeting (fun vs H Q E h => by obtain ⟨_, _, _, _, _, rfl, _⟩ := h; rfl) (fun cdv A outer s H vs Q E hr h => ?_)
  obtain ⟨S, t, x, th, v, rfl, kn, ht, ok, hth, hlen, q⟩ := h
  refine ⟨_, (pss_one (ps_ret (pe_and (pe_call G_are_houses (hr.mono (by omega)) (by rfl) T.m_are_houses T.F_are_houses.kp T.b_are_houses .nil pass0 (pa_cons (pe_meth0 (pv 0) U.cls U.me_members G_Tree_members (hr.mono (by omega)) T.b_Tree_members .nil pass0) (pa_cons (pv 1) pa_nil))) (pe_one (pe_call G_stands_barely (hr.mono (by omega)) (by rfl) T.m_stands_barely T.F_stands_barely.kp T.b_stands_barely .nil pass0 (pa_cons (pe_prop (pv 0) U.cls hpS G_Tree_shape (hr.mono (by omega)) T.b_Tree_shape .nil pass0 rfl) (pa_cons (pv 1) pa_nil))))))), ?_⟩
  refine s_ret (t_andV (t_call2 (t_members rfl kn ht ok fun um H1 s1 dm => t_var rfl ⟨S, mem t, th, um, v, rfl, kn.same s1, dm, hth.same (off_same s1), hlen, fun H2 s2 => ?_⟩)))
  have s12 := s1.trans s2
  refine bl_if (fun e => ?_) (fun e => ?_)
  · cases th with
    | dic ks => cases e
    | dat d =>
      cases hi : items d with
      | none => rw [hsT_none (natsT_none (th := .dat d) hi)] at e; cases e
      | some ds =>
        cases ea : ds.all (belowD 24) with
        | false => rw [hsT_none (natsT_no (th := .dat d) hi ea)] at e; cases e
        | true =>
          have eds := below_nats ea
          have e1 : hsT (mem t) (.dat d) = (decide (ds.map toN).Nodup && (ds.map toN).all fun n => decide (n ∈ mem t)) := hsT_some (natsT_yes hi ea)
          have e2 : meetT t (.dat d) = ((decide (ds.map toN).Nodup && (ds.map toN).all fun n => decide (n ∈ mem t)) && barely t (ds.map toN)) := meetT_some (natsT_yes hi ea)
          rw [e1] at e
          rw [e2, e, Bool.true_and] at q
          obtain ⟨c, rfl⟩ := items_sq' hi
          have l1000 := hlen ds hi
          generalize ds.map toN = ns at *
          subst eds
          have ln : ns.length ≤ 1000 := by simpa using l1000
          refine t_call2 (t_shape rfl (kn.same s12) (ht.same (off_same s12)) ok fun u H3 s3 du => t_var rfl ⟨S, (flg false t, c, ns), (kn.same s12).same s3, .cons du (.cons (dp_same (off_same (s12.trans s3)) _ _ hth) .nil), ⟨preOf (okt_flg ok), ln⟩, fun b H4 s4 db => ?_⟩)
          replace db : Dp K (off S H4) b (.bool (barely (flg false t) ns)) := db
          rw [barely_flg] at db
          cases db
          exact q H4 (s12.trans (s3.trans s4))
  · have : meetT t th = false := by
      unfold hsT at e
      unfold meetT
      cases hn : natsT th with
      | none => rfl
      | some ns => rw [hn] at e; simp only at e ⊢; rw [e]; rfl
    rw [this] at q
    exact q H2 s12
theorem ok_is_cut (T : Txt K mg a fd C tk) (U : TxC K mg a C) : FnOk P w K mg base CX0 12 (a 35) (fd 35) ["tree", "value"] (spMeetT K C con) := by
  have G_is_meeting := ok_is_meeting (P := P) (w := w) (base := base) T U
  have G_Tree_invert := ok_Tree_invert (P := P) (w := w) (base := base) T U
  refine T.F_is_cut.ok sc_is_cut (fun vs H Q E h => by obtain ⟨_, _, _, _, _, rfl, _⟩ := h; rfl) (fun cdv A outer s H vs Q E hr h => ?_)
  obtain ⟨S, t, x, th, v, rfl, kn, ht, ok, hth, hlen, q⟩ := h
  refine ⟨_, (pss_one (ps_ret (pe_call G_is_meeting (hr.mono (by omega)) (by rfl) T.m_is_meeting T.F_is_meeting.kp T.b_is_meeting .nil pass0 (pa_cons (pe_un (un_invI (runsOk G_Tree_invert T.b_Tree_invert) (hr.mono (by omega)) U.me_invert) (pv 0)) (pa_cons (pv 1) pa_nil))))), ?_⟩
  exact s_ret (t_call2 (t_inv rfl kn ht ok fun y H1 s1 hy => t_var rfl ⟨S, con t, y, th, v, rfl, kn.same s1, hy, okt_con ok, hth.same (off_same s1), hlen, fun H2 s2 => q H2 (s1.trans s2)⟩))
end
end K31

set_option maxRecDepth 100000
set_option maxHeartbeats 2000000
/-! sorted(a tuple) -/
namespace PySem.W
open PySem PySem.Spec PyProof.Rows
section
variable {prog : Program} {w : World} {A : Around} {E : Value → Shared → Prop} {s : Shared}
theorem collect_tupK {l : Addr} {vs : List Value} {Q : List Value → Shared → Prop} (hl : s.heap.IsTuple l vs.toArray)
    (h : Q vs { s with heap := (s.heap.push (seqObj "list" #[] 0)).update s.heap.objs.size (Obj.mapSeq (· ++ vs.toArray)) }) (hsz : vs.length ≤ sizeLine) :
    wpAny (model prog w) A (collect (.ref l)) Q E s := by
  obtain ⟨o, ho, hc, n, hd⟩ := id hl
  unfold collect
  refine wpAny_bind (wpAny_runValue (codeAny_builtin entry_proto_collect' ?_))
  show wpAny _ _ (do again (.builtin "list.__iadd__" ⟨[← newList [], .ref l], []⟩)) _ _ s
  refine wpAny_bind (wpAny_newList (wpAny_pure ⟨Code.quiet_builtin _ (by decide +kernel), codeAny_builtin entry_list_iadd' ?_⟩))
  show wpAny _ _ (Builtin.List.listExtendWith (.ref s.heap.objs.size) (.ref l) (.ref s.heap.objs.size)) _ _ { s with heap := s.heap.push (seqObj "list" #[] 0) }
  unfold Builtin.List.listExtendWith
  have ho' : (s.heap.push (seqObj "list" #[] 0)).get? l = some o := Heap.get?_push_of_some _ ho
  refine wpAny_bind (wpAny_typeOf (T := "tuple") ⟨o, ho', hc⟩ ?_)
  have ht : (Value.type "tuple" == Value.type "tuple") = true := by rfl
  rw [if_pos (by rw [ht]; simp)]
  refine wpAny_bind (listItems_at ho' hd ?_)
  refine wpAny_bind (listItems_at (xs := #[]) (n := 0) (Heap.get?_push_size _ rfl) rfl ?_)
  rw [if_neg (by simp)]
  refine wpAny_bind (listUpdate_at (xs := #[]) (n := 0) (Heap.get?_push_size _ rfl) rfl ?_ (Nat.zero_le _) (by show (#[] ++ vs.toArray).size ≤ sizeLine + 1; simp only [Array.size_append, List.size_toArray, List.length_nil]; omega))
  refine wpAny_pure ?_
  show wpAny (model prog w) A (do
      let o ← load s.heap.objs.size
      match o.data with
      | .seq xs _ => pure xs.toList
      | _ => unsupported "internal:collect") Q E { s with heap := (s.heap.push (seqObj "list" #[] 0)).update s.heap.objs.size (Obj.mapSeq (· ++ vs.toArray)) }
  refine wpAny_bind (wpAny_load (get?_update_seq (Heap.get?_push_size _ rfl) _) ?_)
  show wpAny _ _ (pure ((#[] : Array Value) ++ vs.toArray).toList) Q E _
  rw [show ((#[] : Array Value) ++ vs.toArray).toList = vs by simp]
  exact wpAny_pure h
theorem sorted_of_sortT {l : Addr} {vs : List Value} {kw : List (Str × Value)} {Q : Value → Shared → Prop} (hl : s.heap.IsTuple l vs.toArray) (hL : vs.length ≤ sizeLine) (ha1 : argsOk "sorted" ⟨[.ref l], kw⟩) (ha2 : ∀ x, argsOk "list.sort" ⟨[.ref x], kw⟩)
    (body : ∀ E' : Value → Shared → Prop, wpAny (model prog w) A.in1.in1 (Builtin.«list.sort» ⟨[.ref (s.heap.objs.size + 1)], kw⟩) (fun f s' => f = .done (.ret .none) ∧ Q (.ref (s.heap.objs.size + 1)) s') E' { s with heap := copyHeap s.heap vs }) :
    wpAny (model prog w) A (call (.builtin "sorted") [.ref l] kw) Q E s := by
  refine call_function_entry_kw kind_sorted plain_sorted entry_sorted ha1 ?_
  unfold Builtin.«sorted»
  refine wpAny_bind (m := checkCount "sorted" 1 1 _) (wpAny_pure ?_)
  refine wpAny_bind (collect_tupK hl ?_ hL)
  refine wpAny_bind (wpAny_newList ?_ hL)
  have hsz : ((s.heap.push (seqObj "list" #[] 0)).update s.heap.objs.size (Obj.mapSeq (· ++ vs.toArray))).objs.size = s.heap.objs.size + 1 := by
    rw [Heap.size_update, size_push']
  show wpAny _ _ _ _ _ { s with heap := copyHeap s.heap vs }
  rw [hsz]
  refine wpAny_bind (wpAny_holding (wpAny_call_entry_kw slot_list_sort ⟨_, copyHeap_at s.heap vs, rfl⟩ entry_list_sort ?body (ha2 _)))
  case body =>
    show wpAny (model prog w) A.in1.in1 (Builtin.«list.sort» ⟨[.ref (s.heap.objs.size + 1)], kw⟩) _ _ _
    refine wpAny_mono (body _) (fun f s' hf => ?_) fun _ _ e => e
    obtain ⟨rfl, hq⟩ := hf
    exact ⟨_, rfl, wpAny_pure ⟨_, rfl, hq⟩⟩
theorem sorted_dataT {β : Type} {R : Value → β → Prop} {enc : β → PyData} {vs : List Value} {bs : List β} {l : Addr} {Q : Value → Shared → Prop} (hl : s.heap.IsTuple l vs.toArray) (e : EachIs R vs bs) (er : EachIs (fun v b => ∃ as, Reads s.heap v (enc b) as) vs bs) (hal : AllAlike (bs.map enc)) (hk : Sortable (bs.map enc)) (hL : bs.length ≤ sizeLine)
    (hu : ∀ b, b ∈ bs → A.units + 2 + (enc b).depth < cLine) (h : ∀ out, out.length = bs.length → EachIs R out (bs.mergeSort (dataLe false enc)) → Q (.ref (s.heap.objs.size + 1)) { s with heap := sortedAll s.heap vs (List.toArray out) }) :
    wpAny (model prog w) A (call (.builtin "sorted") [.ref l]) Q E s := by
  have er' : EachIs (fun v b => ∃ as, Reads (sortingHeap (copyHeap s.heap vs) (s.heap.objs.size + 1) vs) v (enc b) as) vs bs := er.mono fun _ _ ⟨as, r⟩ => ⟨as, PyProof.Rows.Reads.keeps (fun _ _ => sorting_copy_old) r⟩
  have hL' : vs.length ≤ sizeLine := by rw [e.length]; exact hL
  refine sorted_of_sortT hl hL' (args_sorted1 _) (fun _ => args_list_sort _) fun _ => list_sort_vals (κ := dataKind (sortingHeap (copyHeap s.heap vs) (s.heap.objs.size + 1) vs) (bs.map enc)) (s := { s with heap := copyHeap s.heap vs }) (copyHeap_at s.heap vs) (SortsAt.data (s := { s with heap := sortingHeap (copyHeap s.heap vs) (s.heap.objs.size + 1) vs }) (each_map (R := fun v d => ∃ as, Reads (sortingHeap (copyHeap s.heap vs) (s.heap.objs.size + 1) vs) v d as) enc er') hal hk (bound_map hu)) hL' ⟨rfl, ?_⟩
  exact h _ (by rw [sortVals_length false rfl]; exact e.length) (sortVals_data false e er' hal)
end
end PySem.W
namespace Kh
open PySem PySem.Spec PyProof.Rows L2
def rSortMT (K : PySem.W.Frag) : List V → Hp → VK → Prop := fun vs H Q => ∃ (a : Addr) (xs : List V) (ds : List PyData), vs = [V.ref a] ∧ (SqL K H a xs ∨ SqT K H a xs) ∧ DpAll K H xs ds ∧ PySem.W.AllAlike ds ∧ PySem.W.Sortable ds ∧ (∀ d ∈ ds, d.depth ≤ 60) ∧
  ∀ (p : Addr) (bs : List (V × PyData)), H p = none → bs.Perm (xs.zip ds) → bs.map Prod.snd = ds.mergeSort leD → Q (.ref p) (upd H p (.lst (bs.map Prod.fst)))
theorem cr_sortMT {X : Cx} (hu : X.A.units + 64 < cLine) : CallR X (.builtin "sorted") (rSortMT X.K) := by
  intro pins s σ H vs us Q I r h
  obtain ⟨a, xs, ds, rfl, hs, hd, hal, hk, hdp, q⟩ := h
  rcases hs with hs | hs
  · exact cr_sortM hu pins s σ H _ us Q I r ⟨a, xs, ds, rfl, hs, hd, hal, hk, hdp, q⟩
  obtain ⟨u, rfl, ru⟩ := r.one
  cases ru
  obtain ⟨its, rv, hl, hz⟩ := I.tuple hs
  have e := each_rel rv (dpa_len hd)
  have er : PySem.W.EachIs (fun (v : Value) (b : V × PyData) => ∃ as, Reads s.heap v b.2 as) its (xs.zip ds) := each_and e fun u b hb ru => Dp.reads I b.2 b.1 u (zip_mem_dp hd b hb) ru
  have hlen : (xs.zip ds).length = xs.length := by rw [List.length_zip, dpa_len hd]; omega
  refine PySem.W.sorted_dataT (enc := Prod.snd) hl e er (by rw [zip_snd hd]; exact hal) (by rw [zip_snd hd]; exact hk) (by rw [hlen]; exact hz) (fun b hb => ?_) fun out ho eo => ?_
  · have hm : b.2 ∈ ds := by
      have h1 : b.2 ∈ (xs.zip ds).map Prod.snd := List.mem_map_of_mem hb
      rwa [zip_snd hd] at h1
    have := hdp _ hm
    omega
  · have hp := List.mergeSort_perm (xs.zip ds) (PySem.W.dataLe false Prod.snd)
    have hv := each_vals eo
    obtain ⟨n, hn⟩ := sortedAll_at s.heap its (List.toArray out)
    have hm : ((xs.zip ds).mergeSort (PySem.W.dataLe false Prod.snd)).map Prod.snd = ds.mergeSort leD := by
      exact (PySem.W.sort_maps (r := PySem.W.dataLe false Prod.snd) (s := leD) (Prod.snd : V × PyData → PyData) (fun _ _ _ _ => rfl)).trans (by rw [zip_snd hd])
    refine ⟨.ref (s.heap.objs.size + 1), upd H (s.heap.objs.size + 1) (.lst (((xs.zip ds).mergeSort (PySem.W.dataLe false Prod.snd)).map Prod.fst)), I.laid (t' := s.toks) (fun b o z => sortedAll_old z) (Nat.le_succ _) ⟨?_, out, n, hv, hn⟩, rfl, q _ _ (I.hok.fresh (Nat.le_succ _)) hp hm⟩
    rw [List.length_map, hp.length_eq, hlen]; exact hz
theorem k_sortMT {X : Cx} {K : PySem.W.Frag} (hu : X.A.units + 64 < cLine) (h : X.K = K := by rfl) : CallR X (.builtin "sorted") (rSortMT K) := by subst h; exact cr_sortMT hu
theorem sort_mt {α : Type} {K : PySem.W.Frag} {S : Addr → Prop} {H : Hp} {x : V} {b : Bool} {ms : List α} {f : α → PyData} {le : α → α → Bool} {Q : VK} (hle : ∀ a ∈ ms, ∀ b ∈ ms, le a b = leD (f a) (f b)) (kn : Kn S H) (hx : Dp K (off S H) x (sq b (ms.map f))) (hal : ∀ a ∈ ms, ∀ b ∈ ms, PySem.W.alike (f a) (f b) = true) (hk : PySem.W.Sortable (ms.map f)) (hdp : ∀ a ∈ ms, (f a).depth ≤ 60)
    (q : ∀ u H', Same H H' → Dp K (off S H') u (.list ((ms.mergeSort le).map f)) → Q u H') : rSortMT K [x] H Q := by
  obtain ⟨l, xs, rfl, h1, d1⟩ := items_at hx (items_sq b _)
  refine ⟨l, xs, ms.map f, rfl, h1.imp (fun z => off_sub.seq z) (fun z => same_t off_sub z), dpa_same off_sub _ _ d1, fun d hd d' hd' => ?_, hk, fun d hd => ?_, fun p bs hp pm em => ?_⟩
  · obtain ⟨a, ha, rfl⟩ := List.mem_map.mp hd
    obtain ⟨b, hb, rfl⟩ := List.mem_map.mp hd'
    exact hal a ha b hb
  · obtain ⟨a, ha, rfl⟩ := List.mem_map.mp hd
    exact hdp a ha
  have pe : bs.map Prod.snd = (ms.mergeSort le).map f := by
    rw [em]; exact (PySem.W.sort_maps f hle).symm
  refine q _ _ (same_new hp) (dp_newL kn hp ?_)
  rw [← pe]
  have go : ∀ cs : List (V × PyData), (∀ b ∈ cs, b ∈ xs.zip (ms.map f)) → DpAll K (off S H) (cs.map Prod.fst) (cs.map Prod.snd) := by
    intro cs
    induction cs with
    | nil => intro _; exact .nil
    | cons c cs ih => intro h; exact .cons (zip_mem_dp d1 c (h c List.mem_cons_self)) (ih fun b hb => h b (List.mem_cons_of_mem _ hb))
  exact go bs fun b hb => pm.mem_iff.mp hb
end Kh

set_option maxRecDepth 100000
set_option maxHeartbeats 4000000
namespace K31
open PySem PySem.Spec PyProof.Rows L2 Kh
theorem eqvAll_ints : ∀ a b : List Int, PyData.eqvAll (a.map PyData.int) (b.map PyData.int) = decide (a = b)
  | [], [] => by rw [List.map_nil, PyData.eqvAll]; rfl
  | [], b :: bs => by rw [List.map_nil, List.map_cons, PyData.eqvAll]; rfl
  | a :: as, [] => by rw [List.map_nil, List.map_cons, PyData.eqvAll]; rfl
  | a :: as, b :: bs => by
    rw [List.map_cons, List.map_cons, PyData.eqvAll, eqvAll_ints as bs, PyData.eqv]
    by_cases h : a = b
    · subst h; simp
    · simp [h]
theorem eqv_nL_ints (m : List Nat) (is : List Int) : PyData.eqv (nL m) (.list (is.map PyData.int)) = decide ((m.map fun n : Nat => ((n : Nat) : Int)) = is) := by
  unfold nL
  rw [nD_map, PyData.eqv, eqvAll_ints]
theorem st_nil0 : ∀ t : Kh.T, Wf t → st [] t = false := Kh.T.ind (fun n _ => by rw [st_leaf]; rfl) fun b k ps ih wf => by
  have w := (wf_gate b k ps).mp wf
  rw [st_gate]
  have : ps.filter (st []) = [] := List.filter_eq_nil_iff.mpr fun p hp => by rw [ih p hp (w.2.2 p hp)]; exact Bool.false_ne_true
  rw [this]
  exact decide_eq_false (by have := w.1; simp; omega)
theorem st_full (m : List Nat) : ∀ t : Kh.T, Wf t → (∀ n ∈ lv t, n ∈ m) → st m t = true := Kh.T.ind (fun n _ h => by
    rw [st_leaf]; exact decide_eq_true (h n (by rw [lv_leaf]; simp))) fun b k ps ih wf h => by
  have w := (wf_gate b k ps).mp wf
  rw [st_gate]
  rw [lv_gate] at h
  have : ps.filter (st m) = ps := List.filter_eq_self.mpr fun p hp => ih p hp (w.2.2 p hp) fun n hn => h n (List.mem_flatMap.mpr ⟨p, hp, hn⟩)
  rw [this]
  exact decide_eq_true w.2.1
theorem smeets_ne {t : Kh.T} (wf : Wf t) : smeets t ≠ [] := by
  obtain ⟨l, hl, hb⟩ := barely_in _ (mem t) (Nat.le_refl _) (st_full (mem t) t wf fun n hn => (mem_iff wf n).mpr hn)
  have : l ∈ smeets t := smeets_mem.mpr ⟨hl, hb⟩
  intro z; rw [z] at this; cases this
theorem meet_ne {t : Kh.T} (wf : Wf t) {m : List Nat} (h : m ∈ smeets t) : m ≠ [] := fun z => by
  have hb := (smeets_mem.mp h).2
  have := (barely_iff.mp hb).1
  rw [z, st_nil0 t wf] at this; cases this
theorem rise_sub0 {m l : List Nat} (hm : m.Pairwise (· < ·)) (hl : l.Pairwise (· < ·)) (h : ∀ n ∈ m, n ∈ l) : m.Sublist l := by
  have : m = l.filter fun n => decide (n ∈ m) := rise_eqN hm (hl.sublist List.filter_sublist) fun k => by
    rw [List.mem_filter, decide_eq_true_iff]
    exact ⟨fun q => ⟨h k q, q⟩, fun q => q.2⟩
  rw [this]; exact List.filter_sublist
def inRow (t : Kh.T) (ds : List PyData) : Bool := (smeets t).any fun m => PyData.eqv (nL m) (.list (ds.mergeSort leD))
theorem due_ints {t : Kh.T} (wf : Wf t) {th : Th} {is : List Int} (hi : itemsT th = some (is.map PyData.int)) : inRow t (is.map PyData.int) = meetT t th ∧ (meetT t th = true → is ≠ []) := by
  have eA : (is.map PyData.int).mergeSort leD = (is.mergeSort fun i j => leD (.int i) (.int j)).map PyData.int := (PySem.W.sort_maps (r := fun i j => leD (.int i) (.int j)) (s := leD) PyData.int (fun _ _ _ _ => rfl)).symm
  have pA := List.mergeSort_perm is fun i j => leD (.int i) (.int j)
  have key : inRow t (is.map PyData.int) = true ↔ meetT t th = true := by
    unfold inRow
    rw [eA, List.any_eq_true]
    constructor
    · rintro ⟨m, hm, e⟩
      rw [eqv_nL_ints] at e
      have e := of_decide_eq_true e
      rw [← e] at pA
      obtain ⟨sub, hb⟩ := smeets_mem.mp hm
      have p2 : (is.map Int.toNat).Perm m := by
        have := pA.symm.map Int.toNat
        rw [List.map_map] at this
        have e2 : m.map (Int.toNat ∘ fun n : Nat => ((n : Nat) : Int)) = m := by
          conv => rhs; rw [← List.map_id m]
          exact List.map_congr_left fun n _ => by simp
        rwa [e2] at this
      have ns : (is.map PyData.int).map toN = is.map Int.toNat := by rw [List.map_map]; rfl
      have all : (is.map PyData.int).all (belowD 24) = true := by
        rw [List.all_eq_true]
        intro d hd
        obtain ⟨i, hi, rfl⟩ := List.mem_map.mp hd
        obtain ⟨n, hn, rfl⟩ := List.mem_map.mp (pA.mem_iff.mpr hi)
        have := mem24' (sub.subset hn)
        simp [belowD]; omega
      rw [meetT_some (natsT_yes hi all), ns]
      have nd : (is.map Int.toNat).Nodup := p2.nodup_iff.mpr (sub.nodup (mem_nodup t))
      rw [decide_eq_true nd, Bool.true_and, barely_same (l := m) (fun n => p2.mem_iff), hb, Bool.and_true, List.all_eq_true]
      intro n hn
      exact decide_eq_true (sub.subset (p2.mem_iff.mp hn))
    · intro h
      cases ea : (is.map PyData.int).all (belowD 24) with
      | false => rw [meetT_none (natsT_no hi ea)] at h; cases h
      | true =>
        rw [meetT_some (natsT_yes hi ea)] at h
        have eds := below_nats ea
        generalize (is.map PyData.int).map toN = ns at *
        simp only [Bool.and_eq_true] at h
        obtain ⟨⟨h1, h2⟩, h3⟩ := h
        have nd := of_decide_eq_true h1
        have hin : ∀ n ∈ ns, n ∈ mem t := fun n hn => of_decide_eq_true (List.all_eq_true.mp h2 n hn)
        refine ⟨srt ns, smeets_mem.mpr ⟨rise_sub0 (srt_rise nd) (mem_rise t) fun n hn => hin n (srt_mem.mp hn), ?_⟩, ?_⟩
        · rw [barely_same (l := ns) fun n => srt_mem]; exact h3
        · have e2 : (is.map PyData.int).mergeSort leD = (srt ns).map nD := by
            rw [eds]
            exact (PySem.W.sort_maps (r := leN) (s := leD) nD (fun _ _ _ _ => rfl)).symm
          rw [← eA, e2]
          exact eqv_nL _
  refine ⟨Bool.eq_iff_iff.mpr key, fun h e => ?_⟩
  have h' := key.mpr h
  unfold inRow at h'
  rw [eA, List.any_eq_true] at h'
  obtain ⟨m, hm, e3⟩ := h'
  rw [eqv_nL_ints] at e3
  have e3 := of_decide_eq_true e3
  subst e
  have : m = [] := by
    have := congrArg List.length e3
    simp at this
    exact this
  exact meet_ne wf hm this
def oddB (d : PyData) : Bool := kBool d || kList d || kStr d
theorem meet_none {t : Kh.T} {th : Th} {d : PyData} {ds : List PyData} (hi : itemsT th = some (d :: ds)) (h : belowD 24 d = false) : meetT t th = false := meetT_none (natsT_no hi (by rw [List.all_cons, h]; rfl))
theorem odd_below {d : PyData} (h : oddB d = true) : belowD 24 d = false := by cases d <;> first | rfl | cases h
def NiceD (d : PyData) : Prop := ∃ n m, Nice n m d ∧ n ≤ 1000000 ∧ m ≤ 60
inductive Good : Th → Prop
  | sc {d : PyData} (h : isListD d = false) (n : NiceD d) : Good (.dat d)
  | dic {ks : List Nat} (l : ks.length ≤ 100) (h : ∀ k ∈ ks, k < 256) : Good (.dic ks)
  | nums {b : Bool} {is : List Int} (l : is.length ≤ 100) (n : NiceD (sq b (is.map PyData.int))) : Good (.dat (sq b (is.map PyData.int)))
  | nons : Good (.dat (.list [.none]))
  | odd {ds : List PyData} (ne : ds ≠ []) (h : ∀ d ∈ ds, oddB d = true) (l : ds.length ≤ 100) (n : NiceD (.list ds)) : Good (.dat (.list ds))
def shT : Th → Str
  | .dat d => d.shown
  | .dic ks => (dicD ks).shown
theorem nice_nons : NiceD (.list [.none]) := ⟨_, _, nice_list (niceA_cons nice_none niceA_nil), by decide, by decide⟩
theorem Good.nice {d : PyData} (h : Good (.dat d)) : NiceD d := by
  generalize e : Th.dat d = th at h
  cases h with
  | sc _ n => cases e; exact n
  | dic _ _ => cases e
  | nums _ n => cases e; exact n
  | nons => cases e; exact nice_nons
  | odd _ _ _ n => cases e; exact n
theorem Good.len {th : Th} (h : Good th) : ∀ ds, itemsT th = some ds → ds.length ≤ 1000 := fun ds e => by
  cases h with
  | @sc d h n =>
    have := items_list (d := d)
    rw [h] at this
    have e' : items d = some ds := e
    rw [e'] at this; cases this
  | dic => cases e
  | @nums b is l n =>
    have e' : items (sq b (is.map PyData.int)) = some ds := e
    rw [items_sq] at e'
    cases e'
    rw [List.length_map]; omega
  | nons => cases e; decide
  | odd _ _ l _ => cases e; omega
end K31

set_option maxRecDepth 100000
set_option maxHeartbeats 4000000
namespace K31
open PySem PySem.Spec PyProof.Rows L2 Kh
section
variable {P : Program} {w : World} {K : PySem.W.Frag} {mg : Str → Option Value} {base : Heap} {a : Nat → Addr} {fd : Nat → FuncData} {C : Addr} {tk : Nat → Tok}
def rDictP (K : PySem.W.Frag) : List V → Hp → VK → Prop := fun xs H Q => ∃ (a : Addr) (ps : List Addr) (kvs : List (Key × V)), xs = [.ref a] ∧ SqL K H a (ps.map V.ref) ∧ Paired (fun p kv => SqT K H p [kV kv.1, kv.2]) ps kvs ∧ ∀ p, H p = none → Q (.ref p) (upd H p (.dK (mergeK [] kvs)))
theorem k_dictP {X : Cx} {K : PySem.W.Frag} (hc : X.calm = true) (h : X.K = K := by rfl) : CallR X (.type "dict") (rDictP K) := by subst h; exact call_dictP hc
theorem kn_sb {S : Addr → Prop} {p : Addr} {H H' : Hp} (kn : Kn S H) (sb : SameBut p H H') (hp : PotAt H' p) : Kn S H' := fun b hb => by
  by_cases e : b = p
  · subst e; exact hp.some
  · cases h : H b with
    | none => exact (kn b hb h).elim
    | some o => rw [sb b o e h]; exact fun z => nomatch z
/-- [x for x in numbers if test], the test draws from the pot -/
theorem lcPot {S : Addr → Prop} {p : Addr} {H : Hp} {σ : L2.St} {t te : TE} {tt : TT} {sl : Nat} {vs : List Nat} {Q : VK} (ns : List Nat) (hS : S p) (kn : Kn S H) (hp : PotAt H p)
    (hev : ∀ Q : VK, (∀ u H1, Same H H1 → Dp K (off S H1) u (nL ns) → Q u H1) → t σ H Q) (hn : ns.length ≤ 1000)
    (hw : ∀ x, wipe ((wipe σ vs).set sl (some x)) vs = wipe σ vs)
    (test : ∀ n ∈ ns, ∀ H1, SameBut p H H1 → PotAt H1 p → ∀ Q : Bool → Hp → Prop, (∀ b H', SameBut p H1 H' → PotAt H' p → Q b H') → tt ((wipe σ vs).set sl (some (.int (n : Nat)))) H1 Q)
    (body : ∀ n H1 (Q : VK), Q (.int (n : Nat)) H1 → te ((wipe σ vs).set sl (some (.int (n : Nat)))) H1 Q)
    (done : ∀ D H1 ms, H D = none → SameBut p H H1 → PotAt H1 p → H1 D = some (.lst (ivs ms)) → ms.Sublist ns → Q (.ref D) H1) :
    tLc (fun σ H R => iList K t σ H R ∨ iTup K t σ H R) (gName sl) tt te vs σ H Q := by
  refine .inl (hev _ fun u H1 s du => ?_)
  obtain ⟨ra, xs, rfl, hsq, ha⟩ := list_at (ds := ns.map nD) du
  have ex := dpa_nats ha
  subst ex
  have kn1 := kn.same s
  have hp1 := hp.same s
  refine ⟨ra, rfl, ⟨_, off_sub.seq hsq⟩, fun D hD => ?_⟩
  have Dp' : D ≠ p := fun e => by subst e; exact hp1.some hD
  have w : Walk (Itl K ra) (ivs ns).length (fun H' => Same (off S H1) H') (YAt (ivs ns)) := walk_list.mono (fun H' z => z.seq hsq) fun _ _ _ _ _ _ y => y
  refine wlk w (fun x H' Nx => gName sl x (wipe σ vs) H' fun σ2 H2 => wipe σ2 vs = wipe σ vs ∧ tt σ2 H2 fun b H3 => if b = true then te σ2 H3 fun y H4 => ∃ acc, H4 D = some (.lst acc) ∧ acc.length < sizeLine ∧ Nx (upd H4 D (.lst (acc ++ [y]))) else Nx H3)
    (fun i H' => ∃ ms : List Nat, SameBut p H1 H' ∧ PotAt H' p ∧ H' D = some (.lst (ivs ms)) ∧ ms.Sublist (ns.take i)) ⟨[], sbut (same_new hD), hp1.same (same_new hD), upd_same, by simp⟩ (fun i H' _ ⟨_, z, _⟩ => off_keep hS z) ?_ ?_
  · rintro i x H2 H3 hi ⟨ms, z, hp2, hd, sub⟩ ⟨rfl, xi⟩
    have hi' : i < ns.length := by simpa [ivs] using hi
    have hj : ns[i]? = some ns[i] := List.getElem?_eq_getElem hi'
    have : (ivs ns)[i]? = some (.int ((ns[i] : Nat) : Int)) := by unfold ivs; rw [List.getElem?_map, hj]; rfl
    rw [this] at xi
    cases xi
    refine ⟨hw _, test ns[i] (List.getElem_mem hi') H3 (sb_trans (sbut s) z) hp2 _ fun b H4 sb4 hp4 => ?_⟩
    have hd4 := sb4 _ _ Dp' hd
    have z4 := sb_trans z sb4
    cases b with
    | false => exact ⟨ms, z4, hp4, hd4, sub.trans (List.take_sublist_take_left (by omega))⟩
    | true =>
      rw [if_pos rfl]
      refine body _ _ _ ⟨_, hd4, ?_, ms ++ [ns[i]], ?_, ?_, ?_, ?_⟩
      · have := sub.length_le
        rw [List.length_take] at this
        exact Nat.lt_of_le_of_lt (show (ivs ms).length ≤ 1000 by simp [ivs]; omega) (by decide)
      · intro b o nb hb
        rw [upd_ne (ne_of_none hb hD)]; exact z4 b o nb hb
      · obtain ⟨x, y, h, hy⟩ := hp4
        exact ⟨x, y, by rw [upd_ne (Ne.symm Dp')]; exact h, hy⟩
      · rw [upd_same]; simp [ivs]
      · rw [take_snoc' hj]
        exact List.Sublist.append sub (List.Sublist.refl _)
  · rintro H2 ⟨ms, z, hp2, hd, sub⟩
    have el : (ivs ns).length = ns.length := by simp [ivs]
    rw [el, List.take_length] at sub
    exact done D H2 ms (s.free hD) (sb_trans (sbut s) z) hp2 hd sub
def AllAt (K : PySem.W.Frag) (S : Addr → Prop) (H : Hp) (tl : List (V × Th)) : Prop := ∀ q ∈ tl, ThAt K (off S H) q.1 q.2 ∧ Good q.2
theorem AllAt.nil {S : Addr → Prop} {H : Hp} : AllAt K S H [] := fun q h => nomatch h
theorem AllAt.mv {S : Addr → Prop} {H H' : Hp} {tl : List (V × Th)} (h : AllAt K S H tl) (s : Same (off S H) (off S H')) : AllAt K S H' tl := fun q hq => ⟨(h q hq).1.same s, (h q hq).2⟩
theorem AllAt.add {S : Addr → Prop} {H : Hp} {tl : List (V × Th)} {v : V} {th : Th} (h : AllAt K S H tl) (x : ThAt K (off S H) v th) (g : Good th) : AllAt K S H (tl ++ [(v, th)]) := fun q hq => by
  rcases List.mem_append.mp hq with hq | hq
  · exact h q hq
  · rw [List.mem_singleton.mp hq]; exact ⟨x, g⟩
theorem AllAt.addD {S : Addr → Prop} {H : Hp} {tl : List (V × Th)} {v : V} {d : PyData} (h : AllAt K S H tl) (x : Dp K (off S H) v d) (g : Good (.dat d)) : AllAt K S H (tl ++ [(v, .dat d)]) := h.add (th := .dat d) x g
theorem niceN {b : Bool} {ns : List Nat} (h : ∀ n ∈ ns, n < 256) (l : ns.length ≤ 100) : NiceD (sq b (ns.map nD)) := by
  have q := nice_sq (b := b) (niceA_map (f := nD) (g := fun _ => 100) (m := 0) ns fun n hn => nice_int (h n hn))
  have e : ∀ l : List Nat, (l.map fun _ => 100 + 1).sum = 101 * l.length := by
    intro l
    induction l with
    | nil => rfl
    | cons x l ih => rw [List.map_cons, List.sum_cons, ih, List.length_cons]; omega
  rw [e] at q
  exact ⟨_, _, q, by omega, by decide⟩
theorem good_nats {b : Bool} {ns : List Nat} (h : ∀ n ∈ ns, n < 256) (l : ns.length ≤ 100) : Good (.dat (sq b (ns.map nD))) := by
  have n := niceN (b := b) h l
  rw [nD_map] at n ⊢
  exact .nums (by rw [List.length_map]; exact l) n
theorem good_m1 : Good (.dat (.list [.int (-1)])) := .nums (b := false) (is := [-1]) (by decide) ⟨_, _, nice_list (niceA_cons (show Nice 100 0 (.int (-1)) from ⟨by decide +kernel, by decide +kernel, by decide +kernel, by decide +kernel, by decide +kernel, by decide +kernel⟩) niceA_nil), by decide, by decide⟩
def strN (n : Nat) : Str := toString ((n : Nat) : Int)
theorem strN_all : ((List.range 24).all fun n => decide ((strN n).cps.size ≤ 8) && ((strN n).cps.toList.all fun c => decide (c < 1114112)) && PyData.strOk (strN n)) = true := by decide +kernel
theorem nice_strN {n : Nat} (h : n < 24) : Nice 8 0 (.str (strN n)) := by
  have q := (List.all_eq_true.mp strN_all) n (List.mem_range.mpr h)
  simp only [Bool.and_eq_true, decide_eq_true_eq, List.all_eq_true] at q
  exact nice_str (fun c hc => q.1.2 c hc) q.1.1 q.2
theorem good_strs {ns : List Nat} (ne : ns ≠ []) (h : ∀ n ∈ ns, n < 24) (l : ns.length ≤ 100) : Good (.dat (.list (ns.map fun n => .str (strN n)))) := by
  refine .odd (by simpa using ne) (fun d hd => ?_) (by rw [List.length_map]; exact l) ?_
  · obtain ⟨n, _, rfl⟩ := List.mem_map.mp hd; rfl
  · have q := nice_list (niceA_map (f := fun n => PyData.str (strN n)) (g := fun _ => 8) (m := 0) ns fun n hn => nice_strN (h n hn))
    have e : ∀ l : List Nat, (l.map fun _ => 8 + 1).sum = 9 * l.length := by
      intro l
      induction l with
      | nil => rfl
      | cons x l ih => rw [List.map_cons, List.sum_cons, ih, List.length_cons]; omega
    rw [e] at q
    exact ⟨_, _, q, by omega, by decide⟩
theorem pairs_of {H : Hp} : ∀ {xs : List V} {ns : List Nat}, DpAll K H xs (ns.map fun n => .tuple [nD n, .int (0 : Nat)]) → ∃ as : List Addr, xs = as.map V.ref ∧ Paired (fun (p : Addr) (kv : Key × V) => SqT K H p [kV kv.1, kv.2]) as (dicO ns)
  | _, [], h => by cases h; exact ⟨[], rfl, .nil⟩
  | _, n :: ns, h => by
    cases h with
    | cons h1 h2 =>
      obtain ⟨as, e, g⟩ := pairs_of h2
      obtain ⟨b, ys, rfl, hs, ha⟩ := tup_at h1
      obtain - | ⟨k1, - | ⟨k2, ⟨⟩⟩⟩ := ha
      cases k1
      cases k2
      exact ⟨b :: as, by rw [e]; rfl, .cons hs g⟩
theorem paired_off {S : Addr → Prop} {H : Hp} : ∀ {as : List Addr} {kvs : List (Key × V)}, Paired (fun (p : Addr) (kv : Key × V) => SqT K (off S H) p [kV kv.1, kv.2]) as kvs → Paired (fun (p : Addr) (kv : Key × V) => SqT K H p [kV kv.1, kv.2]) as kvs
  | _, _, .nil => .nil
  | _, _, .cons h t => .cons (same_t off_sub h) (paired_off t)
theorem s_setC {te : TE} {i : Nat} {σ : L2.St} {H : Hp} {D : Ends} (Cnd : V → Hp → Prop) (k : ∀ v H', Cnd v H' → D.nx (σ.set i (some v)) H') (h : ∀ N : VK, (∀ v H', Cnd v H' → N v H') → te σ H N) : tAsg te (gName i) D σ H := h (fun v H' => D.nx (σ.set i (some v)) H') k
theorem merge_uq (ns : List Nat) : mergeK [] (dicO ns) = dicO (uq ns) := by
  have go : ∀ (ns us : List Nat), mergeK (dicO us) (dicO ns) = dicO (uqF us ns) := by
    intro ns
    induction ns with
    | nil => intro us; rfl
    | cons n ns ih =>
      intro us
      show mergeK (putK (dicO us) (Sum.inl ((n : Nat) : Int)) (V.int 0)) (dicO ns) = dicO (uqF (addU us n) ns)
      rw [← ih]
      congr 1
      exact putU (V.int 0) us n
  exact go ns []
theorem thing_repr {S : Addr → Prop} {H : Hp} {v : V} {th : Th} {Q : VK} (h : ThAt K (off S H) v th) (g : Good th) (q : Q (.str (shT th)) H) : rReprX K [v] H Q := by
  refine ⟨v, rfl, ?_⟩
  cases th with
  | dat d =>
    obtain ⟨n, m, h1, h2, h3⟩ := g.nice
    exact .inl ⟨d, ⟨dp_same off_sub _ _ h, n, m, h1, h2, h3⟩, q⟩
  | dic ks =>
    obtain ⟨r, rfl, hr⟩ := h
    cases g with
    | dic l hk => exact .inr ⟨r, ks, rfl, off_sub _ _ hr, l, hk, q⟩
theorem isiT_th {S : Addr → Prop} {H : Hp} {v : V} {th : Th} {p : Addr} {Q : VK} (h : ThAt K (off S H) v th) (hp : H p = some (.tup [.ty "list", .ty "tuple"])) (q : Q (.bl (isListT th)) H) : rIsiT K [v, .ref p] H Q := by
  cases th with
  | dat d => exact isi2_d off_sub h hp (kit_list d) (kit_tup d) q
  | dic ks =>
    obtain ⟨r, rfl, hr⟩ := h
    exact isi2_dic (off_sub _ _ hr) hp (by decide +kernel : kitB "dict" "list" = some false) (by decide +kernel : kitB "dict" "tuple" = some false) q
theorem isi3_d {S : Addr → Prop} {H : Hp} {v : V} {d : PyData} {p : Addr} {Q : VK} (h : Dp K (off S H) v d) (hp : H p = some (.tup [.ty "bool", .ty "list", .ty "str"])) (q : Q (.bl (oddB d)) H) : rIsiT K [v, .ref p] H Q := by
  refine ⟨v, p, [.ty "bool", .ty "list", .ty "str"], .type (tyN d), [.type "bool", .type "list", .type "str"], oddB d, rfl, hp, .cons (.ty _) (.cons (.ty _) (.cons (.ty _) .nil)), tyx_d (dp_same off_sub _ _ h), ?_, q⟩
  unfold oddB
  refine kitAny_cons (kit_ty (kit_bool d)) (fun h1 => ?_) (fun h1 => by rw [h1]; rfl)
  refine kitAny_cons (kit_ty (kit_list d)) (fun h2 => ?_) (fun h2 => by rw [h2]; cases kBool d <;> rfl)
  refine kitAny_cons (kit_ty (kit_str d)) (fun h3 => ?_) (fun h3 => by rw [h3]; cases kBool d <;> cases kList d <;> rfl)
  rw [h1, h2, h3]; exact kitAny_nil
def islB (th : Th) : Bool := match itemsT th with
  | some ds => !(ds.any oddB)
  | none => false
theorem islB_none {th : Th} (h : itemsT th = none) : islB th = false := by unfold islB; rw [h]
theorem islB_some {th : Th} {ds : List PyData} (h : itemsT th = some ds) : islB th = !(ds.any oddB) := by unfold islB; rw [h]
end
end K31

set_option maxRecDepth 100000
set_option maxHeartbeats 4000000
namespace K31
open PySem PySem.Spec PyProof.Rows L2 Kh
section
variable {P : Program} {w : World} {K : PySem.W.Frag} {mg : Str → Option Value} {base : Heap} {a : Nat → Addr} {fd : Nat → FuncData} {C : Addr} {tk : Nat → Tok}
theorem isl_meet {t : Kh.T} {th : Th} (g : Good th) (h : islB th = false) : meetT t th = false := by
  cases g with
  | @sc d hd n =>
    have : items d = none := by
      have := items_list (d := d)
      rw [hd] at this
      cases e : items d with
      | none => rfl
      | some ds => rw [e] at this; cases this
    exact meetT_none (natsT_none (th := .dat d) this)
  | dic => rfl
  | @nums b is l n =>
    rw [islB_some (th := .dat (sq b (is.map PyData.int))) (items_sq b _)] at h
    have : (is.map PyData.int).any oddB = false := by
      rw [List.any_eq_false]
      intro d hd
      obtain ⟨i, _, rfl⟩ := List.mem_map.mp hd
      exact Bool.false_ne_true
    rw [this] at h; cases h
  | nons => rw [islB_some (th := .dat (.list [.none])) rfl] at h; cases h
  | @odd ds ne hd l n =>
    cases ds with
    | nil => exact (ne rfl).elim
    | cons d ds => exact meet_none (th := .dat (.list (d :: ds))) rfl (odd_below (hd d List.mem_cons_self))
theorem isl_true {th : Th} (g : Good th) (h : islB th = true) : th = .dat (.list [.none]) ∨ ∃ (b : Bool) (is : List Int), is.length ≤ 100 ∧ th = .dat (sq b (is.map PyData.int)) := by
  cases g with
  | @sc d hd n =>
    have : items d = none := by
      have := items_list (d := d)
      rw [hd] at this
      cases e : items d with
      | none => rfl
      | some ds => rw [e] at this; cases this
    rw [islB_none (th := .dat d) this] at h; cases h
  | dic => cases h
  | @nums b is l n => exact .inr ⟨b, is, l, rfl⟩
  | nons => exact .inl rfl
  | @odd ds ne hd l n =>
    cases ds with
    | nil => exact (ne rfl).elim
    | cons d ds =>
      rw [islB_some (th := .dat (.list (d :: ds))) rfl, List.any_cons, hd d List.mem_cons_self] at h; cases h
theorem can_ints : ∀ is : List Int, PyData.canLayAll0 (is.map PyData.int) = true
  | [] => by simp [PyData.canLayAll0]
  | m :: ms => by rw [List.map_cons, PyData.canLayAll0, can_ints ms]; simp [PyData.canLay0]
theorem dep_ints : ∀ is : List Int, PyData.depthAll (is.map PyData.int) = 0
  | [] => by simp [PyData.depthAll]
  | m :: ms => by rw [List.map_cons, PyData.depthAll, dep_ints ms]; simp [PyData.depth]
theorem shaped_ints (b : Bool) (is : List Int) : SeqAt.shaped (sq b (is.map PyData.int)) = true := by
  cases b with
  | false =>
    show SeqAt.shaped (.list (is.map PyData.int)) = true
    unfold SeqAt.shaped
    rw [PyData.canLay0, can_ints, PyData.depth, dep_ints]; rfl
  | true =>
    show SeqAt.shaped (.tuple (is.map PyData.int)) = true
    unfold SeqAt.shaped
    rw [PyData.canLay0, can_ints, PyData.depth, dep_ints]; rfl
theorem eqv_sq_nil {b : Bool} {is : List Int} (h : is ≠ []) : PyData.eqv (sq b (is.map PyData.int)) (.list []) = false := by
  cases is with
  | nil => exact (h rfl).elim
  | cons i is =>
    cases b with
    | false => show PyData.eqv (.list _) (.list []) = false; rw [PyData.eqv, List.map_cons, PyData.eqvAll]
    | true => show PyData.eqv (.tuple _) (.list []) = false; rw [PyData.eqv]
theorem flat_ints : ∀ is : List Int, (is.map V.int).all flatV = true ∧ inV .non (is.map V.int) = false
  | [] => ⟨rfl, rfl⟩
  | i :: is => by
    obtain ⟨h1, h2⟩ := flat_ints is
    refine ⟨by rw [List.map_cons, List.all_cons, h1]; rfl, ?_⟩
    unfold inV at *
    rw [List.map_cons, List.any_cons, h2]; rfl
theorem sortable_ints (is : List Int) : PySem.W.Sortable (is.map PyData.int) := PySem.W.Sortable.others fun b => ⟨fun h => (nomatch h), fun xs h => (nomatch h)⟩
theorem due_eval {S : Addr → Prop} {σ : L2.St} {H : Hp} {v row : V} {th : Th} {u : Kh.T} {Q : VK} (wf : Wf u) (sm : (∀ m ∈ smeets u, (∀ n ∈ m, n < 256) ∧ m.length ≤ 8) ∧ (smeets u).length ≤ 128) (g : Good th) (kn : Kn S H) (ha : ThAt K (off S H) v th) (hrow : Dp K (off S H) row (nLL (smeets u)))
    (h8 : σ[8]? = some (some v)) (h9 : σ[9]? = some (some (.bl (islB th)))) (h15 : σ[15]? = some (some row)) (q : ∀ H', Same H H' → Q (.bl (meetT u th)) H') :
    tAndV (tVar 9) (tAndV (tOp (rIn K true) (tC .non) (tVar 8)) (tAndV (tOp (rInD K) (tCB (rSortMT K) (tCons (tVar 8) tNil)) (tVar 15)) (tOp (rNeD K) (tVar 8) (tLst tNil)))) σ H Q := by
  refine t_andV (t_var h9 (bl_if (fun e => ?_) (fun e => ?_)))
  case refine_2 =>
    have := q H (Same.refl _)
    rw [isl_meet g e] at this
    exact this
  rcases isl_true g e with rfl | ⟨b, is, l100, rfl⟩
  · obtain ⟨r, xs, rfl, hs, hx⟩ := list_at (ds := [.none]) ha
    obtain - | ⟨h1, ⟨⟩⟩ := hx
    cases h1
    have := q H (Same.refl _)
    rw [meet_none (th := .dat (.list [.none])) rfl rfl] at this
    exact t_andV (t_op (t_c (t_var h8 ⟨r, _, rfl, .inl (off_sub.seq hs), rfl, rfl, false, rfl, this⟩)))
  · obtain ⟨r, xs, rfl, hs, hx⟩ := items_at (show Dp K (off S H) v (sq b (is.map PyData.int)) from ha) (items_sq b _)
    have ex := dpa_ints hx
    subst ex
    obtain ⟨f1, f2⟩ := flat_ints is
    obtain ⟨k1, k2⟩ := due_ints (th := .dat (sq b (is.map PyData.int))) wf (items_sq b _)
    refine t_andV (t_op (t_c (t_var h8 ⟨r, _, rfl, hs.imp (fun z => off_sub.seq z) (fun z => same_t off_sub z), rfl, f1, true, by rw [f2]; rfl, ?_⟩)))
    rw [if_pos rfl]
    refine t_andV (t_op (t_cb1 (t_var h8 (sort_mt (b := b) (ms := is.map PyData.int) (f := fun d => d) (le := leD) (fun _ _ _ _ => rfl) kn (by rw [List.map_id']; exact ha) (fun x hx y hy => ?_) (by rw [List.map_id']; exact sortable_ints is) (fun d hd => ?_) fun u1 H4 s4 d4 => t_var h15 ?_))))
    · obtain ⟨i, _, rfl⟩ := List.mem_map.mp hx
      obtain ⟨j, _, rfl⟩ := List.mem_map.mp hy
      simp [PySem.W.alike]
    · obtain ⟨i, _, rfl⟩ := List.mem_map.mp hd
      simp [PyData.depth]
    rw [List.map_id'] at d4
    have eA : (is.map PyData.int).mergeSort leD = (is.mergeSort fun i j => leD (.int i) (.int j)).map PyData.int := (PySem.W.sort_maps (r := fun i j => leD (.int i) (.int j)) (s := leD) PyData.int (fun _ _ _ _ => rfl)).symm
    refine ⟨_, (smeets u).map nL, dp_same off_sub _ _ d4, dp_same off_sub _ _ (dp_same (off_same s4) _ _ hrow), by rw [eA]; exact shaped_ints false _, ?_, ?_⟩
    · exact (nice_nLL sm.1 sm.2).shaped (by decide)
    rw [List.any_map]
    refine bl_if (fun e2 => ?_) (fun e2 => ?_)
    · have e3 : meetT u (.dat (sq b (is.map PyData.int))) = true := by rw [← k1]; exact e2
      refine t_op (t_var h8 (t_lst0 fun pp hpp => ?_))
      have sp := same_new (o := HO.lst []) hpp
      refine ⟨_, _, dp_same (off_sub.trans (s4.trans sp)) _ _ ha, dp_same off_sub _ _ (dp_newL (S := S) (ds := []) (kn.same s4) hpp .nil), shaped_ints b is, shaped_ints false [], ?_⟩
      rw [eqv_sq_nil (k2 e3)]
      have := q _ (s4.trans sp)
      rw [e3] at this
      exact this
    · have e3 : meetT u (.dat (sq b (is.map PyData.int))) = false := by rw [← k1]; exact e2
      have := q _ s4
      rw [e3] at this
      exact this
end
end K31

set_option maxRecDepth 100000
set_option maxHeartbeats 4000000
namespace K31
open PySem PySem.Spec PyProof.Rows L2 Kh
section
variable {P : Program} {w : World} {K : PySem.W.Frag} {mg : Str → Option Value} {base : Heap} {a : Nat → Addr} {fd : Nat → FuncData} {C : Addr} {tk : Nat → Tok}
def spJudR (K : PySem.W.Frag) (C : Addr) : Sp := fun vs H Q _ => ∃ (S : Addr → Prop) (p : Addr) (t : Kh.T) (x : Addr) (vt vn vf : V), vs = [.ref p, .ref x, vt, vn, vf] ∧ Kn S H ∧ S p ∧ PotAt H p ∧ TreeAt K C (off S H) t x ∧ Okt t ∧ (mem t).length ≤ 7 ∧ Dp K (off S H) vt (nL (mem t)) ∧ Dp K (off S H) vn (nLL (smeets t)) ∧ Dp K (off S H) vf (nLL (smeets (con t))) ∧ ∀ H', SameBut p H H' → PotAt H' p → Q (.bl true) H'
theorem nat256 {t : Kh.T} {ns : List Nat} (h : ∀ n ∈ ns, n ∈ mem t) : ∀ n ∈ ns, n < 256 := fun n hn => by have := mem24' (h n hn); omega
theorem good_none : Good (.dat .none) := .sc rfl ⟨_, _, nice_none, by decide, by decide⟩
theorem good_zero : Good (.dat (.int 0)) := .sc rfl ⟨_, _, nice_int (n := 0) (by decide), by decide, by decide⟩
theorem good_true : Good (.dat (.bool true)) := .sc rfl ⟨_, _, nice_bool true, by decide, by decide⟩
theorem good_empty : Good (.dat (.str "")) := .sc rfl ⟨_, _, nice_str (n := 0) (fun c hc => nomatch hc) (Nat.le_refl _) (by decide +kernel), by decide, by decide⟩
theorem ok__law_judged_right (T : Txt K mg a fd C tk) (U : TxC K mg a C) (kw_is_meeting : kwR K (fd 34) "tree" "value") (kw_is_cut : kwR K (fd 35) "tree" "value") : FnG P w K mg base 14 (a 56) (fd 56) ["_law_pot_here", "_law_plant", "_law_tags", "_law_near", "_law_far"] (spJudR K C) := by
  have G__law_mixed := ok__law_mixed (P := P) (w := w) (base := base) T
  have G__law_pick := ok__law_pick (P := P) (w := w) (base := base) T
  have G__law_draw := ok__law_draw (P := P) (w := w) (base := base) T
  have G_is_meeting := ok_is_meeting (P := P) (w := w) (base := base) T U
  have G_is_cut := ok_is_cut (P := P) (w := w) (base := base) T U
  refine fun_okG T.F__law_judged_right sc__law_judged_right (fun vs H Q E h => by obtain ⟨_, _, _, _, _, _, _, rfl, _⟩ := h; rfl) (fun cdv A outer s H vs Q E hg hr h => ?_)
  obtain ⟨S, p, t, x, vt, vn, vf, rfl, kn, hS, pot, ht, ok, m7, dt, dn, df, q⟩ := h
  refine ⟨_, (pss_cons (ps_set (i := 5) sc__law_judged_right.nd rfl (Or.inl rfl) (pe_call G__law_mixed (hr.mono (by omega)) (by rfl) T.m__law_mixed T.F__law_mixed.kp T.b__law_mixed .nil pass0 (pa_cons (pv 0) (pa_cons (pe_call G__law_pick (hr.mono (by omega)) (by rfl) T.m__law_pick T.F__law_pick.kp T.b__law_pick .nil pass0 (pa_cons (pv 0) (pa_cons (pe_op (k_catS (K := K)) (pv 3) (pv 4)) pa_nil))) pa_nil))))
      (pss_cons (ps_set (i := 6) sc__law_judged_right.nd rfl (Or.inl rfl) (pe_lst (pa_cons pe_non (pa_cons pe_int (pa_cons pe_str (pa_cons pe_dnewK (pa_cons pe_bl (pa_cons (pe_lst pa_nil) (pa_cons (pe_tup pa_nil) (pa_cons (pe_lst (pa_cons pe_non pa_nil)) (pa_cons (pv 2) (pa_cons (pe_revL (pv 2)) (pa_cons (pv 5) (pa_cons (pe_callTy (k_tup (K := K)) (by rfl) T.z_tuple (by decide +kernel) (pa_cons (pv 5) pa_nil)) (pa_cons (pe_op (k_catS (K := K)) (pv 5) (pe_slice (k_sl (K := K)) (pv 5) po_none (po_some pe_int))) (pa_cons (pe_lst (pa_cons (pv 5) pa_nil)) pa_nil))))))))))))))))
      (pss_cons (ps_set (i := 6) sc__law_judged_right.nd rfl (Or.inl rfl) (pe_op (k_catS (K := K)) (pv 6) (pe_lst (pa_cons (pe_slice (k_sl (K := K)) (pv 5) (po_some pe_int) po_none) (pa_cons (pe_op (k_catS (K := K)) (pv 5) (pe_lst (pa_cons pe_int pa_nil))) (pa_cons (pe_lst (pa_cons pe_bl pa_nil)) (pa_cons (pe_lst (pa_cons (pe_un un_neg pe_int) pa_nil)) (pa_cons (pe_callTy (k_dictP (K := K) rfl) (by rfl) T.z_dict (by decide +kernel) (pa_cons (pe_lc (own := [("_law_name", 13)]) (g := gName 13) (tt := tYes) rfl sc__law_judged_right.nd (k_pi (K := K) (pv 5)) (blkOk_by (own := [("_law_name", 13)]) (N := _law_judged_right_N) (sc := defScope _law_judged_right_s) (by decide +kernel)) (fun _ _ _ _ _ => (pg_name (i := 13) sc__law_judged_right.nd rfl (Or.inl rfl))) (fun _ _ _ _ _ => pts_nil) (fun _ _ _ _ _ => (pe_tup (pa_cons (pv 13) (pa_cons pe_int pa_nil))))) pa_nil)) pa_nil))))))))
      (pss_cons (ps_expr (pe_bm PySem.F.plainAttrs_list PySem.F.slot_list_append PySem.F.type_list_append mt_append (pv 6) (pa_cons (pe_lc (own := [("_law_name", 13)]) (g := gName 13) (tt := tYes) rfl sc__law_judged_right.nd (k_pi (K := K) (pv 5)) (blkOk_by (own := [("_law_name", 13)]) (N := _law_judged_right_N) (sc := defScope _law_judged_right_s) (by decide +kernel)) (fun _ _ _ _ _ => (pg_name (i := 13) sc__law_judged_right.nd rfl (Or.inl rfl))) (fun _ _ _ _ _ => pts_nil) (fun _ _ _ _ _ => (pe_callTy call_str_int (by rfl) T.z_str (by decide +kernel) (pa_cons (pv 13) pa_nil)))) pa_nil)))
      (pss_cons (ps_for PassesOwn.never rfl (pi_range1 (by rfl) T.z_range (pa_cons pe_int pa_nil)) (pg_name (i := 7) sc__law_judged_right.nd rfl (Or.inl rfl))
        (pss_one (ps_expr (pe_bm PySem.F.plainAttrs_list PySem.F.slot_list_append PySem.F.type_list_append mt_append (pv 6) (pa_cons (pe_lc (own := [("_law_name", 13)]) (g := gName 13) (tt := _) rfl sc__law_judged_right.nd (k_pi (K := K) (pv 2)) (blkOk_by (own := [("_law_name", 13)]) (N := _law_judged_right_N) (sc := defScope _law_judged_right_s) (by decide +kernel)) (fun _ _ _ _ _ => (pg_name (i := 13) sc__law_judged_right.nd rfl (Or.inl rfl))) (fun _ _ _ _ _ => (pts_one (pt_cmpR op_eq (pe_call G__law_draw (hr.mono (by omega)) (by rfl) T.m__law_draw T.F__law_draw.kp T.b__law_draw .nil pass0 (pa_cons (pv 0) (pa_cons pe_int pa_nil))) pe_int (nomark _)))) (fun _ _ _ _ _ => (pv 13))) pa_nil)))))
      (pss_cons (ps_for PassesOwn.never rfl (k_pi (K := K) (pv 6)) (pg_name (i := 8) sc__law_judged_right.nd rfl (Or.inr rfl))
        (pss_cons (ps_set (i := 9) sc__law_judged_right.nd rfl (Or.inr rfl) (pe_and (pe_callB (k_isiT (K := K)) (by rfl) T.z_isinstance (by decide +kernel) (pa_cons (pv 8) (pa_cons (pe_tup (pa_cons (pe_bltn (v := .ty "list") (by rfl) T.z_list (by decide +kernel) rfl) (pa_cons (pe_bltn (v := .ty "tuple") (by rfl) T.z_tuple (by decide +kernel) rfl) pa_nil))) pa_nil))) (pe_one (pe_not (pe_callB (k_any (K := K) rfl) (by rfl) T.z_any (by decide +kernel) (pa_cons (pe_lc (own := [("_law_part", 14)]) (g := gName 14) (tt := tYes) rfl sc__law_judged_right.nd (k_pi (K := K) (pv 8)) (blkOk_by (own := [("_law_part", 14)]) (N := _law_judged_right_N) (sc := defScope _law_judged_right_s) (by decide +kernel)) (fun _ _ _ _ _ => (pg_name (i := 14) sc__law_judged_right.nd rfl (Or.inl rfl))) (fun _ _ _ _ _ => pts_nil) (fun _ _ _ _ _ => (pe_callB (k_isiT (K := K)) (by rfl) T.z_isinstance (by decide +kernel) (pa_cons (pv 14) (pa_cons (pe_tup (pa_cons (pe_bltn (v := .ty "bool") (by rfl) T.z_bool (by decide +kernel) rfl) (pa_cons (pe_bltn (v := .ty "list") (by rfl) T.z_list (by decide +kernel) rfl) (pa_cons (pe_bltn (v := .ty "str") (by rfl) T.z_str (by decide +kernel) rfl) pa_nil)))) pa_nil))))) pa_nil))))))
        (pss_cons (ps_setLc (i := 10) (own := [("_law_row", 15)]) (g := gName 15) (tt := tYes) rfl sc__law_judged_right.nd rfl rfl (sw_true rfl rfl rfl (by decide +kernel)) (k_pi (K := K) (pe_tup (pa_cons (pv 3) (pa_cons (pv 4) pa_nil)))) (blkOk_by (own := [("_law_row", 15)]) (N := _law_judged_right_N) (sc := defScope _law_judged_right_s) (by decide +kernel)) (fun _ _ _ _ _ => (pg_name (i := 15) sc__law_judged_right.nd rfl (Or.inl rfl))) (fun _ _ _ _ _ => pts_nil) (fun _ _ _ _ _ => (pe_and (pv 9) (pe_and (pe_cmpR (k_notIn (K := K)) pe_non (pv 8) (by rfl)) (pe_and (pe_cmpR (k_inD (K := K) hr) (pe_callB (k_sortMT (K := K) hr.units) (by rfl) T.z_sorted (by decide +kernel) (pa_cons (pv 8) pa_nil)) (pv 15) (by rfl)) (pe_one (pe_cmpR (k_neD (K := K) hr.units) (pv 8) (pe_lst pa_nil) (nomark _))))))))
        (pss_cons (ps_set (i := 11) sc__law_judged_right.nd rfl (Or.inl rfl) (pe_callB (cr_reprX hg hr.units) (by rfl) T.z_repr (by decide +kernel) (pa_cons (pv 8) pa_nil)))
        (pss_cons (ps_set (i := 12) sc__law_judged_right.nd rfl (Or.inl rfl) (pe_lst (pa_cons (pe_call G_is_meeting (hr.mono (by omega)) (by rfl) T.m_is_meeting T.F_is_meeting.kp T.b_is_meeting .nil pass0 (pa_cons (pv 1) (pa_cons (pv 8) pa_nil))) (pa_cons (pe_call G_is_cut (hr.mono (by omega)) (by rfl) T.m_is_cut T.F_is_cut.kp T.b_is_cut .nil pass0 (pa_cons (pv 1) (pa_cons (pv 8) pa_nil))) pa_nil))))
        (pss_cons (ps_expr (pe_bm PySem.F.plainAttrs_list PySem.F.slot_list_extend PySem.F.type_list_extend (k_ext (K := K)) (pv 12) (pa_cons (pe_lst (pa_cons (pe_kwR (ks := ["value", "tree"]) G_is_meeting (hr.mono (by omega)) (by rfl) T.m_is_meeting T.F_is_meeting.kp kw_is_meeting (pk_cons (pv 8) (pk_cons (pv 1) pk_nil))) (pa_cons (pe_kwR (ks := ["value", "tree"]) G_is_cut (hr.mono (by omega)) (by rfl) T.m_is_cut T.F_is_cut.kp kw_is_cut (pk_cons (pv 8) (pk_cons (pv 1) pk_nil))) pa_nil))) pa_nil)))
        (pss_one (ps_if (PW.pt (pw_or (pt_cmpR op_ne (pe_callB (cr_reprD hg hr.units) (by rfl) T.z_repr (by decide +kernel) (pa_cons (pv 12) pa_nil)) (pe_callB (cr_reprD hg hr.units) (by rfl) T.z_repr (by decide +kernel) (pa_cons (pe_op (k_catS (K := K)) (pv 10) (pv 10)) pa_nil)) (nomark _)) (pw_or1 (pt_cmpR op_ne (pe_callB (cr_reprX hg hr.units) (by rfl) T.z_repr (by decide +kernel) (pa_cons (pv 8) pa_nil)) (pv 11) (nomark _)))))
          (pss_one (ps_ret pe_bl)) pss_nil))))))))
      (pss_one (ps_ret pe_bl)))))))), ?_⟩
  have few1 := (smeets_small m7).2
  have few2 := (smeets_small (t := con t) (by rw [mem_con]; exact m7)).2
  have wfc := (okt_con ok).1
  refine s_seq (s_set (t_call2 (t_var rfl (t_call2 (t_var rfl (t_op (t_var rfl (t_var rfl (cat_d (ds := (smeets t).map nL) (es := (smeets (con t)).map nL) kn dn df (by rw [List.length_map, List.length_map]; omega) fun u H1 s1 du => ?_)))))))))
  obtain ⟨r, xs, rfl, hs, ha⟩ := list_at du
  have kn1 := kn.same s1
  have pot1 := pot.same s1
  have lx : xs.length = (smeets t).length + (smeets (con t)).length := by rw [dpa_len ha, List.length_append, List.length_map, List.length_map]
  have ne := smeets_ne ok.1
  refine ⟨p, r, xs, rfl, pot1, fun H' sb => (off_keep hS sb).seq hs, ?_, by omega, fun d y H2 hy sb2 pot2 => ?_⟩
  · have := List.length_pos_iff.mpr ne
    omega
  obtain ⟨dd, dj, dy⟩ := dpa_at ha hy
  rw [← List.map_append] at dj
  obtain ⟨m, hj, hm, rfl⟩ := at_map dj
  have hmm : m.Sublist (mem t) ∧ m ≠ [] := by
    rcases List.mem_append.mp hm with h | h
    · exact ⟨(smeets_mem.mp h).1, meet_ne ok.1 h⟩
    · have := (smeets_mem.mp h).1
      rw [mem_con] at this
      exact ⟨this, meet_ne wfc h⟩
  have kn2 := kn_sb kn1 sb2 pot2
  have lm := hmm.1.length_le
  refine ⟨S, p, y, m, rfl, kn2, hS, pot2, dp_same (off_bt hS sb2) _ _ dy, by omega, fun us H3 ms sb3 pot3 pm d3 => nx_of ?_⟩
  have kn3 := kn_sb kn2 sb3 pot3
  have sb03 : SameBut p H H3 := sb_trans (sb_trans (sbut s1) sb2) sb3
  have so3 := off_bt hS sb03
  have ht3 : TreeAt K C (off S H3) t x := ht.same so3
  have dt3 := dp_same so3 _ _ dt
  have dn3 := dp_same so3 _ _ dn
  have df3 := dp_same so3 _ _ df
  have msI : ∀ n ∈ ms, n ∈ mem t := fun n hn => hmm.1.subset (pm.mem_iff.mp hn)
  have msN : ms ≠ [] := fun z => by subst z; exact hmm.2 (List.nil_perm.mp pm)
  have msL : ms.length ≤ 7 := by rw [pm.length_eq]; omega
  have msP : 1 ≤ ms.length := Nat.succ_le_of_lt (List.length_pos_iff.mpr msN)
  have ms256 := nat256 msI
  have q3 : ∀ H', SameBut p H3 H' → PotAt H' p → Q (.bl true) H' := fun H' sb hp => q H' (sb_trans sb03 sb) hp
  clear q ht dt dn df sb03 so3 sb3 sb2 hs ha hy lx dj dy hj hm hmm pm lm du s1 kn1 pot1 kn2 pot2 kn pot few1 few2
  replace d3 : Dp K (off S H3) us (.list (ms.map nD)) := d3
  -- the things
  refine s_seq (s_set (t_lst (a_cons (t_c (a_cons (t_c (a_cons (t_c (a_cons (fun D0 hD0 => ?_)))))))))) 
  have A4 : AllAt K S (upd H3 D0 (.dK [])) ([] ++ [(.non, .dat .none)] ++ [(.int 0, .dat (.int 0))] ++ [(.str "", .dat (.str ""))] ++ [(.ref D0, .dic [])]) := (((AllAt.nil.addD .non good_none).addD (.int _) good_zero).addD (.str _) good_empty).add ⟨D0, rfl, by rw [off_out (kn3.new hD0)]; exact upd_same⟩ (.dic (by decide) (fun _ h => nomatch h))
  have s4 := same_new (o := HO.dK []) hD0
  generalize upd H3 D0 (.dK []) = H4 at *
  have kn4 := kn3.same s4
  refine a_cons (t_c (a_cons (t_lst0 fun L1 hL1 => ?_)))
  have s5 := same_new (o := HO.lst []) hL1
  have A5 := (A4.mv (off_same s5)).addD (v := .bl true) (d := (.bool true)) (.bl _) good_true |>.addD (v := .ref L1) (d := (sq false (([] : List Nat).map nD))) (dp_newL (ds := []) kn4 hL1 .nil) (good_nats (fun _ h => nomatch h) (by decide))
  generalize upd H4 L1 (.lst []) = H5 at *
  have kn5 := kn4.same s5
  refine a_cons (t_tup (a_nil ⟨Nat.zero_le _, fun T1 hT1 => ?_⟩))
  have s6 := same_new (o := HO.tup []) hT1
  have A6 := (A5.mv (off_same s6)).addD (v := .ref T1) (d := (sq true (([] : List Nat).map nD))) (dp_newT (ds := []) kn5 hT1 .nil) (good_nats (fun _ h => nomatch h) (by decide))
  generalize upd H5 T1 (.tup []) = H6 at *
  have kn6 := kn5.same s6
  refine a_cons (t_lst (a_cons (t_c (a_nil ⟨le1, fun L2 hL2 => ?_⟩))))
  have s7 := same_new (o := HO.lst [V.non]) hL2
  have s37 := ((s4.trans s5).trans s6).trans s7
  have A7 := (A6.mv (off_same s7)).addD (v := .ref L2) (d := (.list [.none])) (dp_newL (ds := [.none]) kn6 hL2 (.cons .non .nil)) .nons |>.addD (v := vt) (d := (sq false ((mem t).map nD))) (dp_same (off_same s37) _ _ dt3) (good_nats (nat256 fun n h => h) (by omega))
  generalize upd H6 L2 (.lst [V.non]) = H7 at *
  have kn7 := kn6.same s7
  refine a_cons (t_var rfl (a_cons (rev_nL rfl kn7 (dp_same (off_same s37) _ _ dt3) fun vr H8 s8 dr => ?_)))
  have s38 := s37.trans s8
  have A8 := (A7.mv (off_same s8)).addD (v := vr) (d := (sq false ((mem t).reverse.map nD))) dr (good_nats (nat256 fun n h => List.mem_reverse.mp h) (by rw [List.length_reverse]; omega)) |>.addD (v := us) (d := (sq false (ms.map nD))) (dp_same (off_same s38) _ _ d3) (good_nats ms256 (by omega))
  have kn8 := kn7.same s8
  refine a_cons (t_var rfl (a_cons (t_cb1 (t_var rfl ?_))))
  obtain ⟨rs, xs', rfl, hs3, ha3⟩ := list_at d3
  have es := dpa_nats ha3
  subst es
  refine ⟨rs, _, rfl, .inl ⟨((off_same s38).trans off_sub).seq hs3, fun T2 hT2 => ?_⟩⟩
  have s9 := same_new (o := HO.tup (ivs ms)) hT2
  have s39 := s38.trans s9
  have A9 := (A8.mv (off_same s9)).addD (v := .ref T2) (d := (sq true (ms.map nD))) (dp_newT kn8 hT2 (nats_dpa ms)) (good_nats ms256 (by omega))
  have ek : (List.map (fun n => V.int ((n : Nat) : Int)) ms) = ivs ms := rfl
  rw [ek]
  generalize upd H8 T2 (.tup (ivs ms)) = H9 at *
  have kn9 := kn8.same s9
  have d9 := dp_same (off_same s39) _ _ d3
  refine a_cons (t_op (t_var rfl (t_sl (t_var rfl (o_none (o_some (t_c ⟨_, rfl, ?_⟩)))))))
  refine sl_take (m := 1) (ms := ms) kn9 d9 msP fun u1 H10 s10 d10 => ?_
  refine cat_d (ds := ms.map nD) (es := (ms.take 1).map nD) (kn9.same s10) (dp_same (off_same s10) _ _ d9) d10 (by rw [List.length_map, List.length_map, List.length_take]; omega) fun u2 H11 s11 d11 => ?_
  have s911 := s10.trans s11
  have s311 := s39.trans s911
  have A11 := (A9.mv (off_same s911)).addD (v := u2) (d := (sq false ((ms ++ ms.take 1).map nD))) (by rw [List.map_append]; exact d11) (good_nats (fun n hn => ms256 n ((List.mem_append.mp hn).elim id List.mem_of_mem_take)) (by rw [List.length_append, List.length_take]; omega))
  have kn11 := kn9.same s911
  refine a_cons (t_lst (a_cons (t_var rfl (a_nil ⟨le1, fun L3 hL3 => a_nil ⟨show 14 ≤ sizeLine by decide, fun La hLa => nx_of ?_⟩⟩))))
  have s12 := same_new (o := HO.lst [V.ref rs]) hL3
  have A12 := (A11.mv (off_same s12)).addD (v := .ref L3) (d := .list [nL ms]) (dp_newL (ds := [nL ms]) kn11 hL3 (.cons (dp_same (off_same s311) _ _ d3) .nil)) (.odd (by simp) (fun d hd => by rw [List.mem_singleton.mp hd]; rfl) (show 1 ≤ 100 by omega) ⟨_, _, nice_list (niceA_cons (nice_nLs ms256 (by omega)) (niceA_nil.mono (Nat.le_refl _) (Nat.zero_le _))), by decide, by decide⟩)
  generalize upd H11 L3 (.lst [V.ref rs]) = H12 at *
  have kn12 := kn11.same s12
  have s13 := same_new (o := HO.lst [V.non, .int 0, .str "", .ref D0, .bl true, .ref L1, .ref T1, .ref L2, vt, vr, .ref rs, .ref T2, u2, .ref L3]) hLa
  have A13 := A12.mv (off_same s13)
  have hLa' : (upd H12 La (.lst [V.non, .int 0, .str "", .ref D0, .bl true, .ref L1, .ref T1, .ref L2, vt, vr, .ref rs, .ref T2, u2, .ref L3])) La = some (.lst [V.non, .int 0, .str "", .ref D0, .bl true, .ref L1, .ref T1, .ref L2, vt, vr, .ref rs, .ref T2, u2, .ref L3]) := upd_same
  have s313 := (s311.trans s12).trans s13
  generalize upd H12 La (.lst [V.non, .int 0, .str "", .ref D0, .bl true, .ref L1, .ref T1, .ref L2, vt, vr, .ref rs, .ref T2, u2, .ref L3]) = H13 at *
  have kn13 := kn12.same s13
  clear A4 A5 A6 A7 A8 A9 A11 A12 hD0 hL1 hT1 hL2 hT2 hL3 hLa d9 d10 d11 dr
  have d13 := dp_same (off_same s313) _ _ d3
  refine s_seq (s_set (t_op (t_var rfl (t_lst (a_cons (t_sl (t_var rfl (o_some (t_c ⟨_, rfl, o_none ?_⟩)))))))))
  refine sl_drop (m := 1) (ms := ms) kn13 d13 msP fun v1 H14 s14 e14 => ?_
  have A14 := (A13.mv (off_same s14)).addD (v := v1) (d := sq false ((ms.drop 1).map nD)) e14 (good_nats (fun n hn => ms256 n (List.mem_of_mem_drop hn)) (by rw [List.length_drop]; omega))
  have kn14 := kn13.same s14
  refine a_cons (t_op (t_var rfl (t_lst (a_cons (t_c (a_nil ⟨le1, fun L4 hL4 => ?_⟩))))))
  have s15 := same_new (o := HO.lst [V.int 24]) hL4
  refine cat_d (ds := ms.map nD) (es := [nD 24]) (kn14.same s15) (dp_same (off_same (s14.trans s15)) _ _ d13) (dp_newL kn14 hL4 (.cons (.int _) .nil)) (by rw [List.length_map]; simp; omega) fun v2 H16 s16 e16 => ?_
  have s146 := s15.trans s16
  have A16 := (A14.mv (off_same s146)).addD (v := v2) (d := sq false ((ms ++ [24]).map nD)) (by rw [List.map_append]; exact e16) (good_nats (fun n hn => (List.mem_append.mp hn).elim (ms256 n) fun h => by rw [List.mem_singleton.mp h]; decide) (by rw [List.length_append]; simp; omega))
  have kn16 := kn14.same s146
  refine a_cons (t_lst (a_cons (t_c (a_nil ⟨le1, fun L5 hL5 => ?_⟩))))
  have s17 := same_new (o := HO.lst [V.bl true]) hL5
  have A17 := (A16.mv (off_same s17)).addD (v := .ref L5) (d := .list [.bool true]) (dp_newL (ds := [.bool true]) kn16 hL5 (.cons (.bl _) .nil)) (.odd (by simp) (fun d hd => by rw [List.mem_singleton.mp hd]; rfl) (by decide) ⟨_, _, nice_list (niceA_cons (nice_bool true) niceA_nil), by decide, by decide⟩)
  generalize upd H16 L5 (.lst [V.bl true]) = H17 at *
  have kn17 := kn16.same s17
  refine a_cons (t_lst (a_cons (t_un (t_c ⟨_, rfl, a_nil ⟨le1, fun L6 hL6 => ?_⟩⟩))))
  have s18 := same_new (o := HO.lst [V.int (-1)]) hL6
  have A18 := (A17.mv (off_same s18)).addD (v := .ref L6) (d := .list [.int (-1)]) (dp_newL (ds := [.int (-1)]) kn17 hL6 (.cons (.int _) .nil)) good_m1
  generalize upd H17 L6 (.lst [V.int (-1)]) = H18 at *
  have kn18 := kn17.same s18
  have s1318 := s14.trans (s146.trans (s17.trans s18))
  refine a_cons (t_cb1 (lcM false ms nD (fun n => .tuple [nD n, .int (0 : Nat)]) kn18 (fun Q q => t_var rfl (q _ _ (Same.refl _) (dp_same (off_same s1318) _ _ d13))) (by omega) (fun _ => rfl) (fun n hn y H19 S19 s19 kn19 dy hS ho Q q => t_tup (a_cons (t_var rfl (a_cons (t_c (a_nil ⟨le2, fun pp hpp => q _ _ (same_new hpp) (dp_newT kn19 hpp (.cons dy (.cons (.int _) .nil)))⟩)))))) fun D7 H19 ys hD7 s19 hd19 d19 => ?_))
  obtain ⟨rD, xs7, e7, hs7, ha7⟩ := list_at d19
  cases e7
  obtain ⟨as, rfl, hpr⟩ := pairs_of ha7
  refine ⟨D7, as, dicO ms, rfl, off_sub.seq hs7, paired_off hpr, fun D8 hD8 => ?_⟩
  rw [merge_uq]
  have s20 := same_new (o := HO.dK (dicO (uq ms))) hD8
  have kn19 := kn18.same s19
  have uqI : ∀ k ∈ uq ms, k ∈ ms := fun k hk => by
    rcases (uqF_mem ms [] k).mp hk with h | h
    · cases h
    · exact h
  have A20 := (A18.mv (off_same (s19.trans s20))).add (v := .ref D8) (th := .dic (uq ms)) ⟨D8, rfl, by rw [off_out (kn19.new hD8)]; exact upd_same⟩ (.dic (by have := uq_len ms; omega) fun k hk => ms256 k (uqI k hk))
  generalize upd H19 D8 (.dK (dicO (uq ms))) = H20 at *
  have kn20 := kn19.same s20
  refine a_nil ⟨show 5 ≤ sizeLine by decide, fun Lb hLb => ?_⟩
  have s21 := same_new (o := HO.lst [v1, v2, .ref L5, .ref L6, .ref D8]) hLb
  have s1321 := s1318.trans (s19.trans (s20.trans s21))
  have hLb' : (upd H20 Lb (.lst [v1, v2, .ref L5, .ref L6, .ref D8])) Lb = some (.lst [v1, v2, .ref L5, .ref L6, .ref D8]) := upd_same
  have A21 := A20.mv (off_same s21)
  generalize upd H20 Lb (.lst [v1, v2, .ref L5, .ref L6, .ref D8]) = H21 at *
  have kn21 := kn20.same s21
  refine ⟨La, Lb, _, _, rfl, rfl, sqL (s1321 _ _ hLa'), sqL hLb', show 14 + 5 ≤ sizeLine by decide, fun Lc hLc => nx_of ?_⟩
  have hLc3 : H3 Lc = none := (s313.trans s1321).free hLc
  have s22 := same_new (o := HO.lst ([V.non, .int 0, .str "", .ref D0, .bl true, .ref L1, .ref T1, .ref L2, vt, vr, .ref rs, .ref T2, u2, .ref L3] ++ [v1, v2, .ref L5, .ref L6, .ref D8])) hLc
  have A22 : ∃ tl : List (V × Th), tl.length ≤ 19 ∧ tl.map Prod.fst = [V.non, .int 0, .str "", .ref D0, .bl true, .ref L1, .ref T1, .ref L2, vt, vr, .ref rs, .ref T2, u2, .ref L3] ++ [v1, v2, .ref L5, .ref L6, .ref D8] ∧ AllAt K (plus S Lc) (upd H21 Lc (.lst ([V.non, .int 0, .str "", .ref D0, .bl true, .ref L1, .ref T1, .ref L2, vt, vr, .ref rs, .ref T2, u2, .ref L3] ++ [v1, v2, .ref L5, .ref L6, .ref D8]))) tl :=
    ⟨_, Nat.le_refl _, rfl, fun q hq => ⟨(A21 q hq).1.same (off_plus hLc s22), (A21 q hq).2⟩⟩
  have hLc' : (upd H21 Lc (.lst ([V.non, .int 0, .str "", .ref D0, .bl true, .ref L1, .ref T1, .ref L2, vt, vr, .ref rs, .ref T2, u2, .ref L3] ++ [v1, v2, .ref L5, .ref L6, .ref D8]))) Lc = some (.lst ([V.non, .int 0, .str "", .ref D0, .bl true, .ref L1, .ref T1, .ref L2, vt, vr, .ref rs, .ref T2, u2, .ref L3] ++ [v1, v2, .ref L5, .ref L6, .ref D8])) := upd_same
  obtain ⟨tl, ltl, etl, A22⟩ := A22
  rw [← etl] at hLc' A22 s22
  have s322 := (s313.trans s1321).trans s22
  have so : Same (off S H3) (off (plus S Lc) (upd H21 Lc (.lst (tl.map Prod.fst)))) := off_plus hLc3 s322
  rw [← etl]
  generalize upd H21 Lc (.lst (tl.map Prod.fst)) = H22 at *
  clear A21 A20 A18 A17 A16 A14 A13 s21 s1321 hLb' kn21 kn20 kn19 s20 s19 hpr hs7 ha7 d19 hd19 kn18 kn17 kn16 kn14 kn13 kn12 hLa'
  have ht22 : TreeAt K C (off (plus S Lc) H22) t x := ht3.same so
  have dt22 := dp_same so _ _ dt3
  have dn22 := dp_same so _ _ dn3
  have df22 := dp_same so _ _ df3
  have d22 := dp_same so _ _ d3
  have kn22 : Kn (plus S Lc) H22 := (kn3.same s322).plus (some_ne hLc')
  have pot22 := pot3.same s322
  have hS2 : plus S Lc p := .inl hS
  have sb22 : SameBut p H3 H22 := sbut s322
  have Lp : Lc ≠ p := fun e => by subst e; exact pot3.some hLc3
  clear hLc so s22 s322 etl
  generalize eS2 : plus S Lc = S2 at *
  have S2c : S2 Lc := by rw [← eS2]; exact .inr rfl
  refine s_seq (s_drop (t_bm (t_var rfl ⟨.inl ⟨rfl, _, sqL hLc'⟩, a_cons (lcM false ms nD (fun n => .str (strN n)) kn22 (fun Q q => t_var rfl (q _ _ (Same.refl _) d22)) (by omega) (fun _ => rfl) (fun n hn y H23 S23 s23 kn23 dy hS ho Q q => ?_) fun Ds H23 ys hDs s23 hd23 d23 => a_nil ⟨Lc, _, _, rfl, rfl, s23 _ _ hLc', ?_, nx_of ?_⟩)⟩)))
  · cases dy
    have n24 : n < 24 := mem24' (msI n hn)
    refine t_cb1 (t_var rfl ⟨_, rfl, ?_, q _ _ (Same.refl _) (.str _)⟩)
    have : ((n : Nat) : Int).natAbs < 2 ^ 5 := by simp; omega
    exact Nat.lt_trans (log_lt this (by decide)) (by decide)
  · rw [List.length_map]
    exact Nat.lt_of_le_of_lt (show tl.length ≤ 1000 by omega) (by decide)
  have A23 := (A22.mv (off_same s23)).addD (v := .ref Ds) (d := .list (ms.map fun n => .str (strN n))) d23 (good_strs msN (fun n hn => mem24' (msI n hn)) (by omega))
  have sb23 : SameBut p H3 (upd H23 Lc (.lst (tl.map Prod.fst ++ [.ref Ds]))) := fun b o n h => by
    rw [upd_ne (ne_of_none h hLc3)]; exact s23 _ _ (sb22 b o n h)
  have em : off S2 (upd H23 Lc (.lst (tl.map Prod.fst ++ [.ref Ds]))) = off S2 H23 := off_mut S2c
  have hLc24 : (upd H23 Lc (.lst (tl.map Prod.fst ++ [.ref Ds]))) Lc = some (.lst (tl.map Prod.fst ++ [.ref Ds])) := upd_same
  have so : Same (off S2 H22) (off S2 (upd H23 Lc (.lst (tl.map Prod.fst ++ [.ref Ds])))) := by rw [em]; exact off_same s23
  have A24 : AllAt K S2 (upd H23 Lc (.lst (tl.map Prod.fst ++ [.ref Ds]))) (tl ++ [(.ref Ds, .dat (.list (ms.map fun n => .str (strN n))))]) := fun q hq => by rw [em]; exact A23 q hq
  have kn24 : Kn S2 (upd H23 Lc (.lst (tl.map Prod.fst ++ [.ref Ds]))) := fun b hb => by
    by_cases e : b = Lc
    · rw [e]; exact some_ne hLc24
    · rw [upd_ne e]; exact (kn22.same s23) b hb
  have pot24 : PotAt (upd H23 Lc (.lst (tl.map Prod.fst ++ [.ref Ds]))) p := by
    obtain ⟨x0, y0, h, hy⟩ := pot22.same s23
    exact ⟨x0, y0, by rw [upd_ne (Ne.symm Lp)]; exact h, hy⟩
  obtain ⟨tl1, ltl', etl, A24⟩ : ∃ tl1 : List (V × Th), tl1.length ≤ 20 ∧ tl1.map Prod.fst = tl.map Prod.fst ++ [V.ref Ds] ∧ AllAt K S2 (upd H23 Lc (.lst (tl.map Prod.fst ++ [.ref Ds]))) tl1 := ⟨_, by rw [List.length_append]; simp; omega, by rw [List.map_append]; rfl, A24⟩
  generalize upd H23 Lc (.lst (tl.map Prod.fst ++ [.ref Ds])) = H24 at *
  rw [← etl] at hLc24
  have ht24 : TreeAt K C (off S2 H24) t x := ht22.same so
  have dt24 := dp_same so _ _ dt22
  have dn24 := dp_same so _ _ dn22
  have df24 := dp_same so _ _ df22
  clear A23 A22 hd23 d23 hDs em so hLc' ht22 dt22 dn22 df22 d22 kn22 pot22 sb22 s23 etl
  refine s_seq ?_
  show iRng1 (tCons (tC (.int 3)) tNil) _ _ _
  refine r_rng (a_cons (t_c (a_nil ⟨3, rfl, by decide, by decide, ?_⟩)))
  refine for_it walk_range (fun i σ' H' => ∃ x7 x8 x9 x10 x11 x12 x13 x14 x15, σ' = [some (.ref p), some (.ref x), some vt, some vn, some vf, some (.ref rs), some (.ref Lc), x7, x8, x9, x10, x11, x12, x13, x14, x15] ∧ ∃ tl, tl.length ≤ 20 + i ∧ AllAt K S2 H' tl ∧ H' Lc = some (.lst (tl.map Prod.fst)) ∧ SameBut p H3 H' ∧ PotAt H' p ∧ Same (off S2 H24) (off S2 H')) ⟨_, _, _, _, _, _, _, _, _, rfl, tl1, ltl', A24, hLc24, sb23, pot24, Same.refl _⟩ (fun _ _ _ _ _ => trivial) ?_ ?_
  · rintro i x0 σ' Ha Hb hi ⟨x7, x8, x9, x10, x11, x12, x13, x14, x15, rfl, tl2, l2, A2, hL2, sb2, pt2, so2⟩ ⟨rfl, rfl⟩
    have i3 : i < 3 := by simpa using hi
    have kna : Kn S2 Hb := fun b hb => by
      by_cases e : b = p
      · rw [e]; exact pt2.some
      · by_cases e2 : b = Lc
        · rw [e2]; exact some_ne hL2
        · rw [← eS2] at hb
          rcases hb with hb | hb
          · exact (kn_sb kn3 sb2 pt2) b hb
          · exact (e2 hb).elim
    refine g_name (s_drop (t_bm (t_var rfl ⟨.inl ⟨rfl, _, sqL hL2⟩, a_cons (lcPot (mem t) hS2 kna pt2 (fun Q q => t_var rfl (q _ _ (Same.refl _) (dp_same so2 _ _ dt24))) (by omega) (fun _ => rfl) (fun n hn H1 sb1 pt1 Q q => b_test (t_op (t_call2 (t_var rfl (t_c ⟨p, 2, rfl, pt1, by omega, by omega, fun d H' hd sb' pt' => t_c ⟨rfl, ⟨_, rfl, q _ H' sb' pt'⟩⟩⟩))))) (fun n H1 Q q => t_var rfl q) fun D H1 ms1 hD sb1 pt1 hD1 sub => a_nil ⟨Lc, _, _, rfl, rfl, sb1 _ _ Lp hL2, ?_, nx_of ?_⟩)⟩)))
    · rw [List.length_map]
      exact Nat.lt_of_le_of_lt (show tl2.length ≤ 1000 by omega) (by decide)
    have hDL : D ≠ Lc := fun e => by subst e; rw [hD] at hL2; cases hL2
    have em : off S2 (upd H1 Lc (.lst (tl2.map Prod.fst ++ [.ref D]))) = off S2 H1 := off_mut S2c
    have A3 := (A2.mv (off_bt hS2 sb1)).addD (v := .ref D) (d := sq false (ms1.map nD)) (dp_lst (kna.new hD) hD1 (nats_dpa ms1)) (good_nats (nat256 fun n hn => sub.subset hn) (by have := sub.length_le; omega))
    refine ⟨_, _, _, _, _, _, _, _, _, rfl, tl2 ++ [(.ref D, .dat (sq false (ms1.map nD)))], by rw [List.length_append]; simp; omega, fun q hq => by rw [em]; exact A3 q hq, by rw [upd_same, List.map_append]; rfl, fun b o n h => ?_, ?_, by rw [em]; exact so2.trans (off_bt hS2 sb1)⟩
    · rw [upd_ne (ne_of_none h hLc3)]; exact sb1 b o n (sb2 b o n h)
    · obtain ⟨x0, y0, h, hy⟩ := pt1
      exact ⟨x0, y0, by rw [upd_ne (Ne.symm Lp)]; exact h, hy⟩
  rintro σ' H25 ⟨x7, x8, x9, x10, x11, x12, x13, x14, x15, rfl, tl2, l2, A2, hL2, sb2, pt2, so2⟩
  refine nx_of ?_
  have kn25 : Kn S2 H25 := fun b hb => by
    by_cases e : b = p
    · rw [e]; exact pt2.some
    · by_cases e2 : b = Lc
      · rw [e2]; exact some_ne hL2
      · rw [← eS2] at hb
        rcases hb with hb | hb
        · exact (kn_sb kn3 sb2 pt2) b hb
        · exact (e2 hb).elim
  have ht25 : TreeAt K C (off S2 H25) t x := ht24.same so2
  have dn25 := dp_same so2 _ _ dn24
  have df25 := dp_same so2 _ _ df24
  clear A24 hLc24 sb23 kn24 pot24 ht24 dt24 dn24 df24 ltl' so2 ht3 dt3 dn3 df3 d3 ha3 hs3 ltl
  refine s_seq ?_
  refine Or.inl (t_var rfl ⟨Lc, rfl, ⟨_, sqL hL2⟩, ?_⟩)
  refine for_it (walk_list (K := K) (a := Lc) (xs := tl2.map Prod.fst)) (fun i σ' H' => ∃ x7 x8 x9 x10 x11 x12 x13 x14 x15, σ' = [some (.ref p), some (.ref x), some vt, some vn, some vf, some (.ref rs), some (.ref Lc), x7, x8, x9, x10, x11, x12, x13, x14, x15] ∧ Same H25 H') ⟨_, _, _, _, _, _, _, _, _, rfl, Same.refl _⟩ (fun i σ' H' _ ⟨_, _, _, _, _, _, _, _, _, _, s⟩ => sqL (s _ _ hL2)) ?_ ?_
  · rintro i v σ' Ha Hb hi ⟨x7, x8, x9, x10, x11, x12, x13, x14, x15, rfl, sa⟩ ⟨rfl, xi⟩
    obtain ⟨th, hq⟩ : ∃ th, (v, th) ∈ tl2 := by
      rw [List.getElem?_map] at xi
      cases e : tl2[i]? with
      | none => rw [e] at xi; cases xi
      | some q => rw [e] at xi; cases xi; exact ⟨q.2, List.mem_of_getElem? e⟩
    obtain ⟨at25, good⟩ := A2 _ hq
    replace at25 : ThAt K (off S2 H25) v th := at25
    replace good : Good th := good
    have atA : ∀ {H'}, Same H25 H' → ThAt K (off S2 H') v th := fun {H'} s => at25.same (off_same s)
    have knA : ∀ {H'}, Same H25 H' → Kn S2 H' := fun {H'} s => kn25.same s
    have htA : ∀ {H'}, Same H25 H' → TreeAt K C (off S2 H') t x := fun {H'} s => ht25.same (off_same s)
    have glen := good.len
    refine g_name (s_seq (s_setC (fun u H' => u = .bl (islB th) ∧ Same H25 H') ?_ fun N hN => ?_))
    rotate_left
    · refine t_andV (t_cb (a_cons (t_var rfl (a_cons (t_tup (a_cons (t_c (a_cons (t_c (a_nil ⟨le2, fun pp hpp => a_nil ?_⟩))))))))))
      have sp := same_new (o := HO.tup [V.ty "list", V.ty "tuple"]) hpp
      refine isiT_th (atA (sa.trans sp)) upd_same (bl_if (fun e => ?_) (fun e => ?_))
      · cases th with
        | dic ks => cases e
        | dat d =>
          obtain ⟨ds, hds⟩ : ∃ ds, items d = some ds := by
            have := items_list (d := d)
            rw [show isListD d = true from e] at this
            cases h : items d with
            | none => rw [h] at this; cases this
            | some ds => exact ⟨ds, rfl⟩
          have dl := glen ds hds
          have eb : islB (.dat d) = !(ds.any oddB) := islB_some (th := .dat d) hds
          obtain ⟨c, rfl⟩ := items_sq' hds
          have s2 := sa.trans sp
          refine t_notV (t_cb1 (lcM c ds (fun d => d) (fun d => .bool (oddB d)) (knA s2) (fun Q q => t_var rfl (q _ _ (Same.refl _) (by rw [List.map_id']; exact atA s2))) (by omega) (fun _ => rfl) (fun d0 hd0 y H2 S' s2' kn2 dy hS hoff Q q => ?_) fun D H2 ys hD s2' hd2 h2 => ?_))
          · refine t_cb (a_cons (t_var rfl (a_cons (t_tup (a_cons (t_c (a_cons (t_c (a_cons (t_c (a_nil ⟨le3, fun pq hpq => a_nil ?_⟩)))))))))))
            exact isi3_d (dp_same (off_same (same_new hpq)) _ _ dy) upd_same (q _ _ (same_new hpq) (.bl _))
          · refine any_d (bs := ds.map oddB) off_sub (by rw [List.map_map]; exact h2) ⟨_, rfl, hN _ _ ⟨?_, s2.trans s2'⟩⟩
            rw [eb, List.any_map]; rfl
      · refine hN _ _ ⟨?_, sa.trans sp⟩
        cases th with
        | dic ks => rfl
        | dat d =>
          have : items d = none := by
            have := items_list (d := d)
            rw [show isListD d = false from e] at this
            cases h : items d with
            | none => rfl
            | some ds => rw [h] at this; cases this
          rw [islB_none (th := .dat d) this]
    rintro u Hc ⟨rfl, sc⟩
    refine nx_of (s_seq (s_setC (fun u H' => Same H25 H' ∧ Dp K (off S2 H') u (.list [.bool (meetT t th), .bool (meetT (con t) th)])) ?_ fun N hN => ?_))
    rotate_left
    · refine lcM true [t, con t] (fun u => nLL (smeets u)) (fun u => .bool (meetT u th)) (knA sc) (fun Q q => t_tup (a_cons (t_var rfl (a_cons (t_var rfl (a_nil ⟨le2, fun pp hpp => q _ _ (same_new hpp) (dp_newT (knA sc) hpp (.cons (dp_same (off_same sc) _ _ dn25) (.cons (dp_same (off_same sc) _ _ df25) .nil)))⟩)))))) (by show 2 ≤ 100000; omega) (fun _ => rfl) (fun u hu y H3 S3 s3 kn3 dy hS ho Q q => ?_) fun D H3 ys hD s3 hd3 h3 => hN _ _ ⟨sc.trans s3, h3⟩
      have hu' : u = t ∨ u = con t := by
        rcases List.mem_cons.mp hu with h | h
        · exact .inl h
        · exact .inr (List.mem_singleton.mp h)
      have wfu : Wf u := by rcases hu' with rfl | rfl; exact ok.1; exact wfc
      have mu : (mem u).length ≤ 7 := by
        rcases hu' with rfl | rfl
        · exact m7
        · rw [mem_con]; exact m7
      exact due_eval wfu (smeets_small mu) good kn3 ((atA sc).same ho) dy rfl rfl rfl fun H4 s4 => q _ _ s4 (.bl _)
    rintro ud Hd ⟨sd, dd⟩
    refine nx_of (s_seq (s_set (t_cb1 (t_var rfl (thing_repr (atA sd) good (nx_of ?_))))))
    refine s_seq (s_set (t_lst (a_cons (t_call2 (t_var rfl (t_var rfl ⟨S2, t, x, th, v, rfl, knA sd, htA sd, ok, atA sd, glen, fun He se => a_cons (t_call2 (t_var rfl (t_var rfl ⟨S2, t, x, th, v, rfl, knA (sd.trans se), htA (sd.trans se), ok, atA (sd.trans se), glen, fun Hf sf => a_nil ⟨le2, fun Lt hLt => nx_of ?_⟩⟩)))⟩))))))
    have sdf := se.trans sf
    have s25f := sd.trans sdf
    have sLt := same_new (o := HO.lst [V.bl (meetT t th), V.bl (meetT (con t) th)]) hLt
    have hLt' : (upd Hf Lt (.lst [V.bl (meetT t th), V.bl (meetT (con t) th)])) Lt = some (.lst [V.bl (meetT t th), V.bl (meetT (con t) th)]) := upd_same
    generalize upd Hf Lt (.lst [V.bl (meetT t th), V.bl (meetT (con t) th)]) = Hg at *
    have sdg := sdf.trans sLt
    have s25g := s25f.trans sLt
    refine s_seq (s_drop (t_bm (t_var rfl ⟨.inl ⟨rfl, _, sqL hLt'⟩, a_cons (t_lst (a_cons (t_krr (a_cons (t_var rfl (a_cons (t_var rfl (a_nil ⟨rfl, S2, t, x, th, v, rfl, knA s25g, htA s25g, ok, atA s25g, glen, fun Hh sh => ?_⟩))))))))⟩)))
    refine a_cons (t_krr (a_cons (t_var rfl (a_cons (t_var rfl (a_nil ⟨rfl, S2, t, x, th, v, rfl, knA (s25g.trans sh), htA (s25g.trans sh), ok, atA (s25g.trans sh), glen, fun Hi si => a_nil ⟨le2, fun Lu hLu => a_nil ⟨Lt, Lu, _, _, rfl, rfl, (same_new hLu) _ _ (si _ _ (sh _ _ hLt')), .inl (sqL upd_same), show 2 + 2 ≤ sizeLine by decide, nx_of ?_⟩⟩⟩))))))
    have hLd : Hd Lt = none := sdf.free hLt
    have sfin : Same Hd (upd (upd Hi Lu (.lst [V.bl (meetT t th), V.bl (meetT (con t) th)])) Lt (.lst ([V.bl (meetT t th), V.bl (meetT (con t) th)] ++ [V.bl (meetT t th), V.bl (meetT (con t) th)]))) := smut (sdg.trans (sh.trans (si.trans (same_new hLu)))) hLd
    have dTold : Dp K (off S2 (upd (upd Hi Lu (.lst [V.bl (meetT t th), V.bl (meetT (con t) th)])) Lt (.lst ([V.bl (meetT t th), V.bl (meetT (con t) th)] ++ [V.bl (meetT t th), V.bl (meetT (con t) th)])))) (.ref Lt) (.list [.bool (meetT t th), .bool (meetT (con t) th), .bool (meetT t th), .bool (meetT (con t) th)]) := dp_lst ((knA sd).new hLd) upd_same (.cons (.bl _) (.cons (.bl _) (.cons (.bl _) (.cons (.bl _) .nil))))
    generalize upd (upd Hi Lu (.lst [V.bl (meetT t th), V.bl (meetT (con t) th)])) Lt (.lst ([V.bl (meetT t th), V.bl (meetT (con t) th)] ++ [V.bl (meetT t th), V.bl (meetT (con t) th)])) = Hj at *
    have s25j := sd.trans sfin
    have nice4 : Nice 4 1 (.list [.bool (meetT t th), .bool (meetT (con t) th), .bool (meetT t th), .bool (meetT (con t) th)]) := nice_list (niceA_cons (nice_bool _) (niceA_cons (nice_bool _) (niceA_cons (nice_bool _) (niceA_cons (nice_bool _) niceA_nil))))
    refine s_if (b_or (b_test (t_op (t_cb1 (t_var rfl ⟨_, _, rfl, tells_list (dp_same off_sub _ _ dTold) nice4 (by decide) (by decide), t_cb1 (t_op (t_var rfl (t_var rfl (cat_d (ds := [.bool (meetT t th), .bool (meetT (con t) th)]) (es := [.bool (meetT t th), .bool (meetT (con t) th)]) (knA s25j) (dp_same (off_same sfin) _ _ dd) (dp_same (off_same sfin) _ _ dd) (by show 4 ≤ 100000; omega) fun u4 Hk sk dk => ?_))))⟩)))))
    refine ⟨_, _, rfl, tells_list (dp_same off_sub _ _ dk) nice4 (by decide) (by decide), ne_self ⟨_, rfl, ifF rfl ?_⟩⟩
    have s25k := s25j.trans sk
    exact b_test (t_op (t_cb1 (t_var rfl (thing_repr (atA s25k) good (t_var rfl (ne_self ⟨_, rfl, ifF rfl (s_next ⟨_, _, _, _, _, _, _, _, _, rfl, s25k⟩)⟩))))))
  · rintro σ' H' ⟨x7, x8, x9, x10, x11, x12, x13, x14, x15, rfl, s⟩
    exact nx_of (s_ret (t_c (q3 H' (fun b o n h => s _ _ (sb2 b o n h)) (pt2.same s))))
end
end K31

set_option maxRecDepth 100000
set_option maxHeartbeats 4000000
namespace K31
open PySem PySem.Spec PyProof.Rows L2 Kh
/-! meetings and cuts in new lists -/
theorem ivs_of {K : PySem.W.Frag} {H : Hp} {xs : List V} {m : List Nat} (h : DpAll K H xs (m.map nD)) : xs = ivs m := by
  rw [nD_map] at h
  rw [dpa_ints h, List.map_map]
  rfl
theorem np_ints {H : Hp} {p : Addr} {m : List Nat} (h : H p = some (.lst (ivs m))) : Np H (.ref p) (nL m) :=
  .lst h (by simp [ivs]) fun i x d h1 h2 => by
    unfold ivs at h1
    rw [List.getElem?_map] at h1 h2
    cases e : m[i]? with
    | none => rw [e] at h1; cases h1
    | some n => rw [e] at h1 h2; cases h1; cases h2; exact .int _
theorem np_list {H : Hp} {v : V} {ds : List PyData} (h : Np H v (.list ds)) : ∃ a xs, v = .ref a ∧ H a = some (.lst xs) ∧ xs.length = ds.length ∧ ∀ (i : Nat) x d, xs[i]? = some x → ds[i]? = some d → Np H x d := by
  cases h with
  | lst h l t => exact ⟨_, _, rfl, h, l, t⟩
theorem np_new {S2 : Addr → Prop} {H : Hp} {p : Addr} {xs : List V} {ds : List PyData} (kn : Kn S2 H) (hp : H p = none) (l : xs.length = ds.length) (t : ∀ (i : Nat) x d, xs[i]? = some x → ds[i]? = some d → Np (off S2 H) x d) : Np (off S2 (upd H p (.lst xs))) (.ref p) (.list ds) :=
  .lst (by rw [off_out (kn.new hp)]; exact upd_same) l fun i x d h1 h2 => (t i x d h1 h2).same (off_same (same_new hp))
theorem cat_n {K : PySem.W.Frag} {S2 : Addr → Prop} {H : Hp} {x y : V} {ds es : List PyData} {Q : VK} (kn : Kn S2 H) (hx : Np (off S2 H) x (.list ds)) (hy : Np (off S2 H) y (.list es)) (hz : ds.length + es.length ≤ 100000)
    (q : ∀ u H', Same H H' → Np (off S2 H') u (.list (ds ++ es)) → Q u H') : rCatS K x y H Q := by
  obtain ⟨a, xs, rfl, h1, l1, t1⟩ := np_list hx
  obtain ⟨b, zs, rfl, h2, l2, t2⟩ := np_list hy
  refine ⟨a, b, xs, zs, rfl, rfl, sqL (off_some h1).2, sqL (off_some h2).2, ?_, fun p hp => q _ _ (same_new hp) (np_new kn hp (by rw [List.length_append, List.length_append, l1, l2]) fun i u d h3 h4 => ?_)⟩
  · rw [l1, l2]; exact Nat.le_trans hz (by decide)
  · by_cases hi : i < xs.length
    · rw [List.getElem?_append_left hi] at h3
      rw [List.getElem?_append_left (by omega)] at h4
      exact t1 i u d h3 h4
    · rw [List.getElem?_append_right (by omega)] at h3
      rw [List.getElem?_append_right (by omega), ← l1] at h4
      exact t2 _ u d h3 h4
theorem cat_ints {K : PySem.W.Frag} {S S2 : Addr → Prop} {H : Hp} {x y : V} {m l : List Nat} {Q : VK} (kn : Kn S2 H) (hx : Dp K (off S H) x (nL m)) (hy : Dp K (off S H) y (nL l)) (hz : m.length + l.length ≤ 100000)
    (q : ∀ u H', Same H H' → Np (off S2 H') u (nL (m ++ l)) → Q u H') : rCatS K x y H Q := by
  obtain ⟨a, xs, rfl, h1, d1⟩ := list_at hx
  obtain ⟨b, zs, rfl, h2, d2⟩ := list_at hy
  obtain rfl := ivs_of d1
  obtain rfl := ivs_of d2
  refine ⟨a, b, _, _, rfl, rfl, off_sub.seq h1, off_sub.seq h2, ?_, fun p hp => q _ _ (same_new hp) (np_ints (by rw [off_out (kn.new hp), upd_same]; simp [ivs]))⟩
  rw [List.length_map, List.length_map]
  exact Nat.le_trans hz (by decide)
theorem go_zip {K : PySem.W.Frag} {H : Hp} {xs : List V} {ds : List PyData} (d1 : DpAll K H xs ds) : ∀ cs : List (V × PyData), (∀ b ∈ cs, b ∈ xs.zip ds) → DpAll K H (cs.map Prod.fst) (cs.map Prod.snd) := by
  intro cs
  induction cs with
  | nil => intro _; exact .nil
  | cons c cs ih => intro h; exact .cons (zip_mem_dp d1 c (h c List.mem_cons_self)) (ih fun b hb => h b (List.mem_cons_of_mem _ hb))
theorem sort_nnN {K : PySem.W.Frag} {S S2 : Addr → Prop} {H : Hp} {x : V} {m : List Nat} {Q : VK} (kn : Kn S2 H) (hx : Dp K (off S H) x (nL m))
    (q : ∀ u H', Same H H' → Np (off S2 H') u (nL (srt m)) → Q u H') : rSortM K [x] H Q := by
  obtain ⟨l, xs, rfl, h1, d1⟩ := list_at hx
  refine ⟨l, xs, m.map nD, rfl, off_sub.seq h1, dpa_same off_sub _ _ d1, fun d hd d' hd' => ?_, sortable_nD m, fun d hd => ?_, fun p bs hp pm em => ?_⟩
  · obtain ⟨a, ha, rfl⟩ := List.mem_map.mp hd
    obtain ⟨b, hb, rfl⟩ := List.mem_map.mp hd'
    unfold nD; simp [PySem.W.alike]
  · obtain ⟨a, ha, rfl⟩ := List.mem_map.mp hd
    unfold nD; simp [PyData.depth]
  have pe : bs.map Prod.snd = (srt m).map nD := by
    rw [em]; exact (PySem.W.sort_maps nD fun _ _ _ _ => rfl).symm
  have g := go_zip d1 bs fun b hb => pm.mem_iff.mp hb
  rw [pe] at g
  rw [ivs_of g]
  exact q _ _ (same_new hp) (np_ints (by rw [off_out (kn.new hp), upd_same]))
theorem sort_llN {K : PySem.W.Frag} {S2 : Addr → Prop} {H : Hp} {x : V} {L : List (List Nat)} {t : Kh.T} {Q : VK} (kn : Kn S2 H) (hx : Np (off S2 H) x (nLL L)) (hp : L.Perm (meets t))
    (q : ∀ u H', Same H H' → Np (off S2 H') u (nLL (smeets t)) → Q u H') : rSortM K [x] H Q := by
  obtain ⟨l, xs, rfl, h1, le, tt⟩ := np_list hx
  have d1 : DpAll K (off S2 H) xs (L.map nL) := dpa_of le fun i v d h2 h3 => (tt i v d h2 h3).dp
  refine ⟨l, xs, L.map nL, rfl, sqL (off_some h1).2, dpa_same off_sub _ _ d1, fun d hd d' hd' => ?_, sortable_nL L, fun d hd => ?_, fun p bs hp' pm em => ?_⟩
  · obtain ⟨a, ha, rfl⟩ := List.mem_map.mp hd
    obtain ⟨b, hb, rfl⟩ := List.mem_map.mp hd'
    exact alike_nL a b
  · obtain ⟨a, ha, rfl⟩ := List.mem_map.mp hd
    exact depth_nL a
  have pe : bs.map Prod.snd = (smeets t).map nL := by
    rw [em, ← smeets_of hp]; exact (PySem.W.sort_maps nL fun _ _ _ _ => rfl).symm
  refine q _ _ (same_new hp') ?_
  unfold nLL
  rw [← pe]
  refine np_new kn hp' (by rw [List.length_map, List.length_map]) fun i v d h2 h3 => ?_
  rw [List.getElem?_map] at h2 h3
  cases e : bs[i]? with
  | none => rw [e] at h2; cases h2
  | some b =>
    rw [e] at h2 h3
    cases h2
    cases h3
    obtain ⟨j, hj⟩ := List.mem_iff_getElem?.mp (pm.mem_iff.mp (List.mem_of_getElem? e))
    have := List.getElem?_zip_eq_some.mp hj
    exact tt j _ _ this.1 this.2
/-- [x for x in t if ..] of new things -/
theorem lc_passN {α : Type} {K : PySem.W.Frag} {S S2 : Addr → Prop} {H : Hp} {σ : L2.St} {t te : TE} {tt : TT} {sl : Nat} {vs : List Nat} {Q : VK} (ms : List α) (p : α → Bool) (f : α → PyData) (h12 : ∀ a, S a → S2 a) (kn : Kn S2 H)
    (hev : ∀ Q : VK, (∀ u H1, Same H H1 → Np (off S2 H1) u (.list (ms.map f)) → Q u H1) → t σ H Q) (hn : ms.length ≤ 100000) (hw : ∀ x, wipe ((wipe σ vs).set sl (some x)) vs = wipe σ vs)
    (test : ∀ m ∈ ms, ∀ x H1 S', Same H H1 → Kn S' H1 → Dp K (off S' H1) x (f m) → (∀ a, S a → S' a) → Same (off S H) (off S' H1) → ∀ Q : Bool → Hp → Prop, (∀ H', Same H1 H' → Q (p m) H') → tt ((wipe σ vs).set sl (some x)) H1 Q)
    (body : ∀ x H1 (Q : VK), Q x H1 → te ((wipe σ vs).set sl (some x)) H1 Q)
    (done : ∀ D H1, H D = none → Same H H1 → Np (off S2 H1) (.ref D) (.list ((ms.filter p).map f)) → Q (.ref D) H1) :
    tLc (fun σ H R => iList K t σ H R ∨ iTup K t σ H R) (gName sl) tt te vs σ H Q := by
  refine .inl (hev _ fun u H1 s du => ?_)
  obtain ⟨a, xs, rfl, hs, hl, ht⟩ := np_list du
  have knS : Kn S H1 := fun b z => kn.same s b (h12 b z)
  have aS : off S H1 a = some (.lst xs) := by rw [off_out fun z => (off_some hs).1 (h12 a z)]; exact (off_some hs).2
  have ha : DpAll K (off S H1) xs (ms.map f) := dpa_same (off_less h12) _ _ (dpa_of hl fun i v d h1 h2 => (ht i v d h1 h2).dp)
  have w : Walk (Itl K a) xs.length (fun H' => Same (off S H1) H') (YAt xs) := walk_list.mono (fun H' z => sqL (z a _ aS)) fun _ _ _ _ _ _ y => y
  rw [List.length_map] at hl
  refine ⟨a, rfl, ⟨xs, sqL (off_some hs).2⟩, fun D hD => ?_⟩
  refine lc_filt (Qd := Q (.ref D)) w (fun j x => xs[j]? = some x) (fun i H x H' _ y => y) (pick ms false p) (fun j y _ => xs[j]? = some y) (fun H s => off_sub.trans s) hD (by omega) hw (fun j y H H' e h => h) (fun j x H2 hj xj s2 hd Q q => ?_) (fun j x H2 hj xj pj s2 hd Q q => ?_) (fun ys H2 py s2 hd => ?_)
  · obtain ⟨d, dj, dx⟩ := dpa_at ha xj
    obtain ⟨m, hj, hm, rfl⟩ := at_map dj
    exact test m hm x H2 (plus S D) (s.trans s2) ((knS.same s2).plus hd) (dp_same (off_plus hD s2) _ _ dx) (fun _ h => .inl h) ((off_same s).trans (off_plus hD s2)) Q fun H' s' => by have := q H' s'; rwa [pick_eq hj] at this
  · exact body x H2 Q (q x H2 (Same.refl _) xj)
  · refine done D H2 (s.free hD) (s.trans s2) ?_
    rw [hl] at py
    rw [← range_filter (pt := pick ms false p) (p := p) (f := pick ms .none f) (g := f) fun i x e => ⟨pick_eq e, pick_eq e⟩]
    have go : ∀ {l : List Nat} {ys : List V}, Paired (fun j y => xs[j]? = some y) l ys → ys.length = l.length ∧ ∀ (i : Nat) y d, ys[i]? = some y → (l.map (pick ms .none f))[i]? = some d → Np (off S2 H2) y d := by
      intro l ys p
      induction p with
      | nil => exact ⟨rfl, fun i y d h => by simp at h⟩
      | @cons j y l ys r t ih =>
        refine ⟨by rw [List.length_cons, List.length_cons, ih.1], fun i y' d h1 h2 => ?_⟩
        cases i with
        | zero =>
          cases h1
          cases h2
          have hj : j < ms.length := by
            have := (List.getElem?_eq_some_iff.mp r).1
            omega
          have e := List.getElem?_eq_getElem hj
          rw [pick_eq e]
          exact (ht j _ _ r (by rw [List.getElem?_map, e]; rfl)).same (off_same s2)
        | succ i => exact ih.2 i y' d h1 h2
    have g := go py
    exact .lst (by rw [off_out ((kn.same s).new hD)]; exact hd) (by rw [List.length_map]; exact g.1) g.2
section
variable {P : Program} {w : World} {K : PySem.W.Frag} {mg : Str → Option Value} {base : Heap} {a : Nat → Addr} {fd : Nat → FuncData} {C : Addr} {tk : Nat → Tok}
theorem lists_stepN {K : PySem.W.Frag} {S S2 : Addr → Prop} {H : Hp} {σ : L2.St} {iF iX iS n : Nat} {F : V} {ns : List Nat} {Q : VK} (few : ns.length ≤ 7) (h12 : ∀ a, S a → S2 a) (kn : Kn S2 H) (hF : ∀ x, σ[iF]? = some (some F) ∧ wipe ((wipe σ [iS]).set iS (some x)) [iS] = wipe σ [iS] ∧ (wipe σ [iS])[iF]? = some (some F) ∧ ((wipe σ [iS]).set iS (some x))[iX]? = some (some (.int (n : Nat))) ∧ ((wipe σ [iS]).set iS (some x))[iS]? = some (some x))
    (hF2 : σ[iF]? = some (some F)) (dF : Np (off S2 H) F (nLL (lists ns)))
    (q : ∀ u H', Same H H' → Np (off S2 H') u (nLL (lists (ns ++ [n]))) → Q u H') :
    tOp (rCatS K) (tVar iF) (tLc (fun σ H R => iList K (tVar iF) σ H R ∨ iTup K (tVar iF) σ H R) (gName iS) tYes (tOp (rCatS K) (tVar iS) (tLst (tCons (tVar iX) tNil))) [iS]) σ H Q := by
  have l256 := lists_len8 (ns := ns) (by omega)
  have dF' : Dp K (off S H) F (.list ((lists ns).map nL)) := dp_same (off_less h12) _ _ dF.dp
  refine t_op (t_var hF2 (lc_seqN rp_np (b := false) (ds := (lists ns).map nL) (pick (lists ns) .none fun m => nL (m ++ [n])) h12 kn (fun Q q => t_var hF2 (q _ _ (Same.refl _) dF')) (by rw [List.length_map]; omega) (fun x => (hF x).2.1) (fun j x d H1 Sa Sb dj s1 hab kn1 dx hS Q q => ?_) fun D H1 ys hD s1 hd h1 => ?_))
  · obtain ⟨m, hj, hm, rfl⟩ := at_map dj
    refine t_op (t_var (hF x).2.2.2.2 (t_lst (a_cons (t_var (hF x).2.2.2.1 (a_nil ⟨le1, fun p hp => ?_⟩)))))
    have ml := ((lists_mem ns m).mp hm).length_le
    have sp := same_new (o := HO.lst [V.int (n : Nat)]) hp
    have knA : Kn Sa H1 := fun b z => kn1 b (hab b z)
    refine cat_ints (S := Sa) (m := m) (l := [n]) (kn1.same sp) (dp_same (off_same sp) _ _ dx) (dp_newL knA hp (.cons (.int _) .nil)) (by simp; omega) fun u H5 s5 d5 => q u H5 (sp.trans s5) ?_
    rw [pick_eq hj]; exact d5
  · rw [List.length_map, range_map (l := lists ns) (f := pick (lists ns) .none fun m => nL (m ++ [n])) (g := fun m => nL (m ++ [n])) fun i x e => pick_eq e] at h1
    refine cat_n (ds := (lists ns).map nL) (es := (lists ns).map fun m => nL (m ++ [n])) (kn.same s1) (dF.same (off_same s1)) h1 (by rw [List.length_map, List.length_map]; omega) fun u H5 s5 d5 => q u H5 (s1.trans s5) ?_
    unfold nLL
    rw [lists_snoc, List.map_append, List.map_map]
    exact d5
abbrev spListsN (K : PySem.W.Frag) : Sp := spN Np K e1 (fun ns => ns.length ≤ 8) fun ns => nLL (lists ns)
theorem ok_lists_ofN (T : Txt K mg a fd C tk) : FnOk P w K mg base CX0 1 (a 20) (fd 20) ["houses"] (spListsN K) := by
  refine T.F_lists_of.ok sc_lists_of (fun vs H Q E h => spN_len (fun _ => rfl) h) (fun cdv A outer s H vs Q E hr h => ?_)
  obtain ⟨S, S2, ns, h12, kn, hd, few, q⟩ := h
  obtain - | ⟨hd, ⟨⟩⟩ := hd
  rename_i v
  refine ⟨_, (pss_cons (ps_set (i := 1) sc_lists_of.nd rfl (Or.inl rfl) (pe_lst (pa_cons (pe_lst pa_nil) pa_nil)))
      (pss_cons (ps_for PassesOwn.never rfl (k_pi (K := K) (pv 0)) (pg_name (i := 2) sc_lists_of.nd rfl (Or.inr rfl))
        (pss_one (ps_set (i := 1) sc_lists_of.nd rfl (Or.inl rfl) (pe_op (k_catS (K := K)) (pv 1) (pe_lc (own := [("some", 3)]) (g := gName 3) (tt := tYes) rfl sc_lists_of.nd (k_pi (K := K) (pv 1)) (blkOk_by (own := [("some", 3)]) (N := lists_of_N) (sc := defScope lists_of_s) (by decide +kernel)) (fun _ _ _ _ _ => (pg_name (i := 3) sc_lists_of.nd rfl (Or.inl rfl))) (fun _ _ _ _ _ => pts_nil) (fun _ _ _ _ _ => (pe_op (k_catS (K := K)) (pv 3) (pe_lst (pa_cons (pv 2) pa_nil)))))))))
      (pss_one (ps_ret (pv 1))))), ?_⟩
  refine s_seq (s_set (t_lst (a_cons (t_lst0 fun E0 hE => a_nil ⟨le1, fun F hF => ?_⟩))))
  have sE := same_new (o := HO.lst []) hE
  have dE : Np (off S2 (upd H E0 (.lst []))) (.ref E0) (.list []) := np_new (xs := []) kn hE rfl fun i x d h => by simp at h
  have dF := np_new (xs := [V.ref E0]) (ds := [PyData.list []]) (kn.same sE) hF rfl fun i x d h1 h2 => by
    cases i with
    | zero => cases h1; cases h2; exact dE
    | succ i => simp at h1
  have sF := sE.trans (same_new (o := HO.lst [V.ref E0]) hF)
  generalize upd (upd H E0 (.lst [])) F (.lst [.ref E0]) = H1 at *
  have kn1 := kn.same sF
  have knS1 : Kn S H1 := fun b z => kn1 b (h12 b z)
  have hd1 := dp_same (off_same sF) _ _ hd
  refine s_seq (forM (S := S) false ns nD knS1 (fun Q q => t_var rfl (q _ _ (Same.refl _) hd1)) fun H2 s2 kn2 => ?_)
  refine ⟨fun i σ' H' => ∃ (F : V) (x2 x3 : Option V), σ' = [some v, some F, x2, x3] ∧ Same H2 H' ∧ Np (off S2 H') F (nLL (lists (ns.take i))), ⟨_, _, _, rfl, Same.refl _, dF.same (off_same s2)⟩, fun i σ' H' ⟨_, _, _, _, s, _⟩ => off_sub.trans s, ?_, ?_⟩
  · rintro i n x σ' H' ni hi hm dx ⟨F, x2, x3, rfl, s3, dF'⟩
    cases dx
    refine g_name (s_set (lists_stepN (S := S) (n := n) (ns := ns.take i) (by rw [List.length_take]; omega) h12 ((kn1.same s2).same s3) (fun x => ⟨rfl, rfl, rfl, rfl, rfl⟩) rfl dF' fun u H5 s5 d5 => ⟨u, _, _, rfl, s3.trans s5, ?_⟩))
    rw [take_snoc ni]; exact d5
  · rintro σ' H' ⟨F, x2, x3, rfl, s3, dF'⟩
    rw [List.take_length] at dF'
    exact nx_of (s_ret (t_var rfl (q _ _ ((sF.trans s2).trans s3) dF')))
/-- a function of a tree that tells new lists -/
def spTN (K : PySem.W.Frag) (C : Addr) (more : List V) (pre : Kh.T → Prop) (f : Kh.T → PyData) : Sp := fun vs H Q _ => ∃ (S S2 : Addr → Prop) (t : Kh.T) (x : Addr), vs = .ref x :: more ∧ (∀ a, S a → S2 a) ∧ Kn S2 H ∧ TreeAt K C (off S H) t x ∧ Okt t ∧ pre t ∧
  ∀ v H', Same H H' → Np (off S2 H') v (f t) → Q v H'
theorem ok_mixed_meetingsN (T : Txt K mg a fd C tk) (U : TxC K mg a C) : FnOk P w K mg base CX0 11 (a 22) (fd 22) ["tree"] (spTN K C [] (fun t => (mem t).length ≤ 7) fun t => nLL (smeets t)) := by
  have G_lists_of := ok_lists_ofN (P := P) (w := w) (base := base) T
  have G_stands_barely := ok_stands_barely (P := P) (w := w) (base := base) T
  have G_Tree_shape := ok_Tree_shape (P := P) (w := w) (base := base) T U
  have G_Tree_members := ok_Tree_members (P := P) (w := w) (base := base) T U
  obtain ⟨pS, hpS⟩ := U.p_shape
  refine T.F_mixed_meetings.ok sc_mixed_meetings (fun vs H Q E h => by obtain ⟨_, _, _, _, rfl, _⟩ := h; rfl) (fun cdv A outer s H vs Q E hr h => ?_)
  obtain ⟨S, S2, t, x, rfl, h12, kn, ht, ok, few, q⟩ := h
  refine ⟨_, (pss_cons (ps_set (i := 1) sc_mixed_meetings.nd rfl (Or.inr rfl) (pe_prop (pv 0) U.cls hpS G_Tree_shape (hr.mono (by omega)) T.b_Tree_shape .nil pass0 rfl))
      (pss_one (ps_ret (pe_callB (k_sortM (K := K) hr.units) (by rfl) T.z_sorted (by decide +kernel) (pa_cons (pe_lc (own := [("houses", 2)]) (g := gName 2) (tt := _) rfl sc_mixed_meetings.nd (k_pi (K := K) (pe_call G_lists_of (hr.mono (by omega)) (by rfl) T.m_lists_of T.F_lists_of.kp T.b_lists_of .nil pass0 (pa_cons (pe_meth0 (pv 0) U.cls U.me_members G_Tree_members (hr.mono (by omega)) T.b_Tree_members .nil pass0) pa_nil))) (blkOk_by (own := [("houses", 2)]) (N := mixed_meetings_N) (sc := defScope mixed_meetings_s) (by decide +kernel)) (fun _ _ _ _ _ => (pg_name (i := 2) sc_mixed_meetings.nd rfl (Or.inl rfl))) (fun _ _ _ _ _ => (pts_one (pt_val (pe_call G_stands_barely (hr.mono (by omega)) (by rfl) T.m_stands_barely T.F_stands_barely.kp T.b_stands_barely .nil pass0 (pa_cons (pv 1) (pa_cons (pv 2) pa_nil)))))) (fun _ _ _ _ _ => (pv 2))) pa_nil))))), ?_⟩
  have knS : Kn S H := fun b z => kn b (h12 b z)
  refine s_seq (s_set (t_shape rfl knS ht ok fun u H1 s1 du => nx_of ?_))
  have kn1 := knS.same s1
  have kn1' := kn.same s1
  have ht1 := ht.same (off_same s1)
  refine s_ret (t_cb1 (lc_passN (S := S) (lists (mem t)) (barely t) nL h12 kn1' (fun Q q => t_call1 (t_members rfl kn1 ht1 ok fun u2 H2 s2 d2 => ⟨S, S2, mem t, h12, kn1'.same s2, .cons d2 .nil, by show (mem t).length ≤ 8; omega, fun u3 H3 s3 d3 => q u3 H3 (s2.trans s3) d3⟩)) (Nat.le_trans (lists_len8 (ns := mem t) (by omega)) (by decide)) (fun _ => rfl) (fun m hm x2 H2 S' s2 kn2 dx hS ho Q q => ?_) (fun x2 H2 Q q => t_var rfl q) fun D H2 hD s2 h2 => ?_))
  · refine b_val (t_call2 (t_var rfl (t_var rfl ⟨S', (flg false t, false, m), kn2, .cons (dp_same ho _ _ du) (.cons dx .nil), ⟨preOf (okt_flg ok), ?_⟩, fun v H' s' h => ?_⟩)))
    · show m.length ≤ 1000
      have := ((lists_mem _ m).mp hm).length_le
      omega
    · replace h : Dp K (off S' H') v (.bool (barely (flg false t) m)) := h
      rw [barely_flg] at h
      cases h
      exact ⟨_, rfl, q H' s'⟩
  · exact sort_llN (kn1'.same s2) h2 (List.Perm.refl _) fun u3 H3 s3 d3 => q u3 H3 ((s1.trans s2).trans s3) d3
theorem ok_meetings_withinN (T : Txt K mg a fd C tk) (U : TxC K mg a C) (x0 : Str) : FnOk P w K mg base CX0 30 (a 31) (fd 31) ["tree", "what", "limit"] (spTN K C [.str x0, .int 200] preW fun t => nLL (smeets t)) := by
  have G_mixed_meetings := ok_mixed_meetingsN (P := P) (w := w) (base := base) T U
  have G_how_many := ok_how_many (P := P) (w := w) (base := base) T U
  have G_plain_meetings := ok_plain_meetings (P := P) (w := w) (base := base) T 6
  have G_Tree_shape := ok_Tree_shape (P := P) (w := w) (base := base) T U
  have G_Tree_is_plain := ok_Tree_is_plain (P := P) (w := w) (base := base) T U
  obtain ⟨pS, hpS⟩ := U.p_shape
  obtain ⟨pP, hpP⟩ := U.p_is_plain
  refine T.F_meetings_within.ok sc_meetings_within (fun vs H Q E h => by obtain ⟨_, _, _, _, rfl, _⟩ := h; rfl) (fun cdv A outer s H vs Q E hr h => ?_)
  obtain ⟨S, S2, t, x, rfl, h12, kn', ht, ok, pre, q⟩ := h
  have kn : Kn S H := fun b z => kn' b (h12 b z)
  refine ⟨_, (pss_cons (ps_if (pt_cmpR op_gt (pe_call G_how_many (hr.mono (by omega)) (by rfl) T.m_how_many T.F_how_many.kp T.b_how_many .nil pass0 (pa_cons (pv 0) pa_nil)) (pv 2) (nomark _))
        (pss_one ps_never) pss_nil)
      (pss_cons (ps_if (pt_not (pt_val (pe_prop (pv 0) U.cls hpP G_Tree_is_plain (hr.mono (by omega)) T.b_Tree_is_plain .nil pass0 rfl)))
        (pss_one (ps_ret (pe_call G_mixed_meetings (hr.mono (by omega)) (by rfl) T.m_mixed_meetings T.F_mixed_meetings.kp T.b_mixed_meetings .nil pass0 (pa_cons (pv 0) pa_nil)))) pss_nil)
      (pss_one (ps_ret (pe_callB (k_sortM (K := K) hr.units) (by rfl) T.z_sorted (by decide +kernel) (pa_cons (pe_lc (own := [("houses", 3)]) (g := gName 3) (tt := tYes) rfl sc_meetings_within.nd (k_pi (K := K) (pe_call G_plain_meetings (hr.mono (by omega)) (by rfl) T.m_plain_meetings T.F_plain_meetings.kp T.b_plain_meetings .nil pass0 (pa_cons (pe_prop (pv 0) U.cls hpS G_Tree_shape (hr.mono (by omega)) T.b_Tree_shape .nil pass0 rfl) pa_nil))) (blkOk_by (own := [("houses", 3)]) (N := meetings_within_N) (sc := defScope meetings_within_s) (by decide +kernel)) (fun _ _ _ _ _ => (pg_name (i := 3) sc_meetings_within.nd rfl (Or.inl rfl))) (fun _ _ _ _ _ => pts_nil) (fun _ _ _ _ _ => (pe_callB (k_sortM (K := K) hr.units) (by rfl) T.z_sorted (by decide +kernel) (pa_cons (pv 3) pa_nil)))) pa_nil)))))), ?_⟩
  refine s_seq (s_if (b_test (t_op (t_call1 (t_var rfl ⟨S, t, x, (), [], rfl, kn, ht, ok, .nil, pre, fun u H1 s1 du => ?_⟩)))))
  replace du : Dp K (off S H1) u (nD (meets t).length) := du
  cases du
  have mf := meets_few pre.1
  refine t_var rfl ⟨_, _, rfl, rfl, ⟨_, rfl, ifF (decide_eq_false (by omega)) (s_next ?_)⟩⟩
  refine s_seq (s_if (b_not (b_val (t_plain rfl (kn.same s1) (ht.same (off_same s1)) ok fun H2 s2 => ⟨_, rfl, if_b (fun e => ?_) (fun e => s_next ?_)⟩))))
  · have s12 := s1.trans s2
    exact s_ret (t_call1 (t_var rfl ⟨S, S2, t, x, rfl, h12, kn'.same s12, ht.same (off_same s12), ok, pre.1, fun u H3 s3 du => q u H3 (s12.trans s3) du⟩))
  · have s12 := s1.trans s2
    have e1 : (lv t).length = (mem t).length := by
      have : decide ((lv t).length = (mem t).length) = true := by
        cases h : decide ((lv t).length = (mem t).length) with
        | true => rfl
        | false => rw [h] at e; cases e
      exact of_decide_eq_true this
    have nd := plain_nodup ok.1 e1
    have kn2 := kn.same s12
    have kn2' := kn'.same s12
    refine s_ret (t_cb1 (lc_seqN rp_np (b := false) (ds := (pm t).map nL) (pick (pm t) .none fun m => nL (srt m)) h12 kn2' (fun Q q => t_call1 (t_shape rfl kn2 (ht.same (off_same s12)) ok fun u H3 s3 du => ⟨S, flg false t, kn2.same s3, .cons du .nil, ⟨preOf (okt_flg ok), by show (lv (flg false t)).length ≤ 16; rw [lv_flg]; exact pre.2⟩, fun v H4 s4 d4 => q v H4 (s3.trans s4) (by have d4' : Dp K (off S H4) v (nLL (pm (flg false t))) := d4; rw [pm_flg] at d4'; exact d4')⟩)) (by rw [List.length_map, pm_count ok.1 nd]; omega) (fun _ => rfl) (fun j x2 d H3 Sa Sb dj s3 hab kn3 dx hS Q q => ?_) fun D H3 ys hD s3 hd3 h3 => ?_))
    · obtain ⟨m, hj, hm, rfl⟩ := at_map dj
      exact t_cb1 (t_var rfl (sort_nnN kn3 dx fun u H4 s4 d4 => q u H4 s4 (by rw [pick_eq hj]; exact d4)))
    · rw [List.length_map, range_map (l := pm t) (f := pick (pm t) .none fun m => nL (srt m)) (g := fun m => nL (srt m)) fun i x e => pick_eq e] at h3
      have h3' : Np (off S2 H3) (.ref D) (nLL ((pm t).map srt)) := by unfold nLL; rw [List.map_map]; exact h3
      exact sort_llN (kn2'.same s3) h3' (plain_meets ok.1 nd) fun u H4 s4 d4 => q u H4 ((s12.trans s3).trans s4) d4
theorem ok_meetingsN (T : Txt K mg a fd C tk) (U : TxC K mg a C) : FnOk P w K mg base CX0 32 (a 32) (fd 32) ["tree"] (spTN K C [] preW fun t => nLL (smeets t)) := by
  have G_meetings_within := ok_meetings_withinN (P := P) (w := w) (base := base) T U "meetings"
  refine T.F_meetings.ok sc_meetings (fun vs H Q E h => by obtain ⟨_, _, _, _, rfl, _⟩ := h; rfl) (fun cdv A outer s H vs Q E hr h => ?_)
  obtain ⟨S, S2, t, x, rfl, h12, kn, ht, ok, pre, q⟩ := h
  refine ⟨_, (pss_one (ps_ret (pe_call G_meetings_within (hr.mono (by omega)) (by rfl) T.m_meetings_within T.F_meetings_within.kp T.b_meetings_within .nil pass0 (pa_cons (pv 0) (pa_cons pe_str (pa_cons (pe_glob (v := .int 200) (by rfl) T.m_MOST_MEETINGS ⟨_, rfl⟩) pa_nil)))))), ?_⟩
  exact s_ret (t_call3 (t_var rfl (t_c (t_c ⟨S, S2, t, x, rfl, h12, kn, ht, ok, pre, q⟩))))
theorem ok_cutsN (T : Txt K mg a fd C tk) (U : TxC K mg a C) : FnOk P w K mg base CX0 32 (a 33) (fd 33) ["tree"] (spTN K C [] preW fun t => nLL (smeets (con t))) := by
  have G_meetings_within := ok_meetings_withinN (P := P) (w := w) (base := base) T U "cuts"
  have G_Tree_invert := ok_Tree_invert (P := P) (w := w) (base := base) T U
  refine T.F_cuts.ok sc_cuts (fun vs H Q E h => by obtain ⟨_, _, _, _, rfl, _⟩ := h; rfl) (fun cdv A outer s H vs Q E hr h => ?_)
  obtain ⟨S, S2, t, x, rfl, h12, kn, ht, ok, pre, q⟩ := h
  refine ⟨_, (pss_one (ps_ret (pe_call G_meetings_within (hr.mono (by omega)) (by rfl) T.m_meetings_within T.F_meetings_within.kp T.b_meetings_within .nil pass0 (pa_cons (pe_un (un_invI (runsOk G_Tree_invert T.b_Tree_invert) (hr.mono (by omega)) U.me_invert) (pv 0)) (pa_cons pe_str (pa_cons (pe_glob (v := .int 200) (by rfl) T.m_MOST_CUTS ⟨_, rfl⟩) pa_nil)))))), ?_⟩
  exact s_ret (t_call3 (t_inv rfl (fun b z => kn b (h12 b z)) ht ok fun y H1 s1 hy => t_c (t_c ⟨S, S2, con t, y, rfl, h12, kn.same s1, hy, okt_con ok, preW_con pre, fun v H2 s2 d2 => q v H2 (s1.trans s2) d2⟩)))
end
end K31

set_option maxRecDepth 100000
set_option maxHeartbeats 4000000
namespace K31
open PySem PySem.Spec PyProof.Rows L2 Kh
/-! the whole law -/
theorem cross {t : Kh.T} (wf : Wf t) {m c : List Nat} (hm : m ∈ smeets t) (hc : c ∈ smeets (con t)) : (m.filter fun n => decide (n ∈ c)) ≠ [] := fun z => by
  have h1 := (barely_iff.mp (smeets_mem.mp hm).2).1
  have h2 := (barely_iff.mp (smeets_mem.mp hc).2).1
  have no : ∀ n ∈ m, n ∉ c := fun n hn hc' => by
    have : n ∈ m.filter fun n => decide (n ∈ c) := List.mem_filter.mpr ⟨hn, decide_eq_true hc'⟩
    rw [z] at this; cases this
  have h3 := st_con ((lv t).filter fun n => !decide (n ∈ m)) m t wf fun n hn => by
    rw [List.mem_filter]
    refine ⟨fun h q => ?_, fun q => ⟨hn, ?_⟩⟩
    · rw [decide_eq_true q] at h; cases h.2
    · rw [decide_eq_false q]; rfl
  rw [h1] at h3
  have h4 := st_mono (con t) c ((lv t).filter fun n => !decide (n ∈ m)) (fun n hn q => by
    rw [lv_con] at hn
    refine List.mem_filter.mpr ⟨hn, ?_⟩
    rw [decide_eq_false fun w => no n w q]; rfl) h2
  rw [h3] at h4; cases h4
/-- a list of lists that is new behind Hi -/
def Row (Hi Hj : Hp) (v : V) : Prop := ∃ o b xs ys, v = .ref o ∧ Hi o = none ∧ Hj o = some (.lst (.ref b :: xs)) ∧ Hi b = none ∧ Hj b = some (.lst ys) ∧ ys.length ≤ 100
theorem Row.same {Hi Hj Hk : Hp} {v : V} (h : Row Hi Hj v) (s : Same Hj Hk) : Row Hi Hk v := by
  obtain ⟨o, b, xs, ys, e, h1, h2, h3, h4, h5⟩ := h
  exact ⟨o, b, xs, ys, e, h1, s _ _ h2, h3, s _ _ h4, h5⟩
theorem row_of {H0 H : Hp} {v : V} {L : List (List Nat)} (h : Np (off (old H0) H) v (nLL L)) (ne : L ≠ []) (sm : ∀ m ∈ L, m.length ≤ 100) : Row H0 H v := by
  obtain ⟨o, xs, rfl, ho, hl, ht⟩ := np_list h
  cases L with
  | nil => exact (ne rfl).elim
  | cons m L =>
    cases xs with
    | nil => cases hl
    | cons z xs =>
      obtain ⟨b, ys, rfl, hb, hbl, _⟩ := np_list (ht 0 z (nL m) rfl rfl)
      rw [List.length_map] at hbl
      have h1 := off_some ho
      have h2 := off_some hb
      exact ⟨o, b, xs, ys, rfl, Classical.not_not.mp h1.1, h1.2, Classical.not_not.mp h2.1, h2.2, by rw [hbl]; exact sm m List.mem_cons_self⟩
/-- what is not yet spoilt -/
def Keep (Ha Hi H7 H' : Hp) : Prop := ∀ c u, (Ha c = some u ∨ (Hi c = none ∧ H7 c = some u)) → H' c = some u
theorem keep_step {Ha Hi Hj H7 H' : Hp} {o b : Addr} {u1 u2 : HO} (sa : Same Ha Hi) (sij : Same Hi Hj) (o1 : Hi o = none) (o2 : Hj o ≠ none) (b1 : Hi b = none) (b2 : Hj b ≠ none) (kp : Keep Ha Hi H7 H') : Keep Ha Hj H7 (upd (upd H' b u1) o u2) := fun c u h => by
  have hc : c ≠ o ∧ c ≠ b := by
    rcases h with h | ⟨h, _⟩
    · exact ⟨ne_of_none h (sa.free o1), ne_of_none h (sa.free b1)⟩
    · exact ⟨fun e => o2 (by rw [← e]; exact h), fun e => b2 (by rw [← e]; exact h)⟩
  rw [upd_ne hc.1, upd_ne hc.2]
  exact kp c u (h.imp id fun ⟨h1, h2⟩ => ⟨sij.free h1, h2⟩)
theorem neD_nil {K : PySem.W.Frag} {S : Addr → Prop} {H : Hp} {u v : V} {m : List Nat} {Q : VK} (h1 : Dp K (off S H) u (nL m)) (h2 : Dp K (off S H) v (nL [])) (ne : m ≠ []) (q : Q (.bl true) H) : rNeD K u v H Q := by
  refine ⟨_, _, dp_same off_sub _ _ h1, dp_same off_sub _ _ h2, shaped_nL _, shaped_nL _, ?_⟩
  have e : PyData.eqv (nL m) (nL []) = false := by
    have h := eqv_sq_nil (b := false) (is := m.map fun n : Nat => ((n : Nat) : Int)) fun z => ne (List.map_eq_nil_iff.mp z)
    rw [← nD_map] at h; exact h
  rw [e]; exact q
theorem ShpOf.ok {t : Kh.T} (h : ShpOf 6 t) : Okt t := ⟨h.wf, Nat.le_trans h.len (by decide), Nat.le_trans h.dp (by decide), .inr (Nat.le_trans h.mem (by decide))⟩
def rowsD (t : Kh.T) : List PyData := [nLL (smeets t), nLL (smeets (con t)), nLL (smeets (con t)), nLL (smeets t)]
theorem nice_rows {t : Kh.T} (h : (mem t).length ≤ 7) : ∃ n m, Nice n m (.list (rowsD t)) ∧ n ≤ 1000000 ∧ m ≤ 60 := by
  have a1 := smeets_small h
  have a2 := smeets_small (t := con t) (by rw [mem_con]; exact h)
  have n1 := nice_nLL a1.1 a1.2
  have n2 := nice_nLL a2.1 a2.2
  exact ⟨_, _, nice_list (niceA_cons n1 (niceA_cons n2 (niceA_cons n2 (niceA_cons n1 (niceA_nil.mono (Nat.le_refl 0) (Nat.zero_le 2)))))), by decide, by decide⟩
section
variable {P : Program} {w : World} {K : PySem.W.Frag} {mg : Str → Option Value} {base : Heap} {a : Nat → Addr} {fd : Nat → FuncData} {C : Addr} {tk : Nat → Tok}
/-- all is right -/
def spRight : Sp := fun vs H Q _ => ∃ p, vs = [.ref p] ∧ PotAt H p ∧ ∀ H', SameBut p H H' → Q (.bl true) H'
abbrev kw1 (K : PySem.W.Frag) (fd : FuncData) (p1 : Str) : Prop := KBn K fd [p1] 0 [p1] (fun us ws => us ++ ws) (fun vs zs => vs ++ zs)
theorem ok__law_right (T : Txt K mg a fd C tk) (U : TxC K mg a C) (D : TxD K C) (kw_how_many : kw1 K (fd 24) "tree") (kw_standing : kw1 K (fd 28) "tree") (kw_meetings : kw1 K (fd 32) "tree") (kw_cuts : kw1 K (fd 33) "tree")
    (kw_is_meeting : kwR K (fd 34) "tree" "value") (kw_is_cut : kwR K (fd 35) "tree" "value") (kw_meeting_among : kwR K (fd 36) "tree" "houses") : FnG P w K mg base 40 (a 59) (fd 59) ["_law_pot_here"] spRight := by
  have G__law_shape := ok__law_shape (P := P) (w := w) (base := base) T
  have G__law_houses := ok__law_houses (P := P) (w := w) (base := base) T 6
  have G__law_meetings := ok__law_meetings (P := P) (w := w) (base := base) T
  have G__law_cuts := ok__law_cuts (P := P) (w := w) (base := base) T
  have G__law_common := ok__law_common (P := P) (w := w) (base := base) T
  have G_meetings := ok_meetingsN (P := P) (w := w) (base := base) T U
  have G_cuts := ok_cutsN (P := P) (w := w) (base := base) T U
  have G_Tree_init := ok_Tree_init (P := P) (w := w) (base := base) T U
  have G_Tree_invert := ok_Tree_invert (P := P) (w := w) (base := base) T U
  have G_Tree_eq := ok_Tree_eq (P := P) (w := w) (base := base) T U D
  have G__law_numbers_right := ok__law_numbers_right (P := P) (w := w) (base := base) T U kw_how_many kw_standing
  have G__law_judged_right := ok__law_judged_right (P := P) (w := w) (base := base) T U kw_is_meeting kw_is_cut
  have G__law_among_right := ok__law_among_right (P := P) (w := w) (base := base) T U kw_meeting_among
  refine fun_okG T.F__law_right sc__law_right (fun vs H Q E h => by obtain ⟨_, rfl, _⟩ := h; rfl) (fun cdv A outer s H vs Q E hg hr h => ?_)
  obtain ⟨p, rfl, hp, q⟩ := h
  refine ⟨_, (pss_cons (ps_set (i := 1) sc__law_right.nd rfl (Or.inl rfl) (pe_call G__law_shape (hr.mono (by omega)) (by rfl) T.m__law_shape T.F__law_shape.kp T.b__law_shape .nil pass0 (pa_cons (pv 0) (pa_cons pe_int pa_nil))))
      (pss_cons (ps_par (i := 2) (j := 3) (by rfl) sc__law_right.nd rfl rfl (by decide) rfl rfl (pa_cons (pe_make U.M_Tree G_Tree_init (hr.mono (by omega)) (by rfl) U.m_Tree T.b_Tree_init .nil pass0 (pa_cons (pv 1) pa_nil)) (pa_cons (pe_call G__law_houses (hr.mono (by omega)) (by rfl) T.m__law_houses T.F__law_houses.kp T.b__law_houses .nil pass0 (pa_cons (pv 1) pa_nil)) pa_nil)) (by rfl))
      (pss_cons (ps_asg (pe_tup (pa_cons (pe_call G__law_meetings (hr.mono (by omega)) (by rfl) T.m__law_meetings T.F__law_meetings.kp T.b__law_meetings .nil pass0 (pa_cons (pv 1) pa_nil)) (pa_cons (pe_call G__law_cuts (hr.mono (by omega)) (by rfl) T.m__law_cuts T.F__law_cuts.kp T.b__law_cuts .nil pass0 (pa_cons (pv 1) pa_nil)) pa_nil))) (pg_tup rfl (pgs_cons (pg_name (i := 4) sc__law_right.nd rfl (Or.inl rfl)) (pgs_cons (pg_name (i := 5) sc__law_right.nd rfl (Or.inr rfl)) pgs_nil))))
      (pss_cons (ps_for PassesOwn.never rfl (pi_range1 (by rfl) T.z_range (pa_cons pe_int pa_nil)) (pg_name (i := 6) sc__law_right.nd rfl (Or.inl rfl))
        (pss_cons (ps_set (i := 7) sc__law_right.nd rfl (Or.inl rfl) (pe_lst (pa_cons (pe_call G_meetings (hr.mono (by omega)) (by rfl) T.m_meetings T.F_meetings.kp T.b_meetings .nil pass0 (pa_cons (pv 2) pa_nil)) (pa_cons (pe_call G_cuts (hr.mono (by omega)) (by rfl) T.m_cuts T.F_cuts.kp T.b_cuts .nil pass0 (pa_cons (pv 2) pa_nil)) (pa_cons (pe_kw0 (ks := ["tree"]) G_meetings (hr.mono (by omega)) (by rfl) T.m_meetings T.F_meetings.kp kw_meetings (pk_cons (pe_un (un_invI (runsOk G_Tree_invert T.b_Tree_invert) (hr.mono (by omega)) U.me_invert) (pv 2)) pk_nil)) (pa_cons (pe_kw0 (ks := ["tree"]) G_cuts (hr.mono (by omega)) (by rfl) T.m_cuts T.F_cuts.kp kw_cuts (pk_cons (pe_un (un_invI (runsOk G_Tree_invert T.b_Tree_invert) (hr.mono (by omega)) U.me_invert) (pv 2)) pk_nil)) pa_nil))))))
        (pss_cons (ps_if (pt_cmpR op_ne (pe_callB (cr_reprD hg hr.units) (by rfl) T.z_repr (by decide +kernel) (pa_cons (pv 7) pa_nil)) (pe_callB (cr_reprD hg hr.units) (by rfl) T.z_repr (by decide +kernel) (pa_cons (pe_lst (pa_cons (pv 4) (pa_cons (pv 5) (pa_cons (pv 5) (pa_cons (pv 4) pa_nil))))) pa_nil)) (nomark _))
          (pss_one (ps_ret pe_bl)) pss_nil)
        (pss_one (ps_for PassesOwn.never rfl (k_pi (K := K) (pv 7)) (pg_name (i := 8) sc__law_right.nd rfl (Or.inl rfl))
          (pss_cons (ps_expr (pe_bm PySem.F.plainAttrs_list PySem.F.slot_list_append PySem.F.type_list_append mt_append (pe_ix (k_ix (K := K)) (pv 8) pe_int (fun _ _ => rfl)) (pa_cons pe_int pa_nil)))
          (pss_one (ps_expr (pe_bm0 PySem.F.plainAttrs_list PySem.F.slot_list_clear PySem.F.type_list_clear mt_clear (pv 8))))))))))
      (pss_cons (ps_if (pt_not (pt_val (pe_callB (k_all (K := K) rfl) (by rfl) T.z_all (by decide +kernel) (pa_cons (pe_lc (own := [("_law_here", 9)]) (g := gName 9) (tt := tYes) rfl sc__law_right.nd (k_pi (K := K) (pv 4)) (blkOk_by (own := [("_law_here", 9)]) (N := _law_right_N) (sc := defScope _law_right_s) (by decide +kernel)) (fun _ _ _ _ _ => (pg_name (i := 9) sc__law_right.nd rfl (Or.inr rfl))) (fun _ _ _ _ _ => pts_nil) (fun _ _ _ _ _ => (pe_callB (k_all (K := K) rfl) (by rfl) T.z_all (by decide +kernel) (pa_cons (pe_lc (own := [("_law_there", 10)]) (g := gName 10) (tt := tYes) rfl sc__law_right.nd (k_pi (K := K) (pv 5)) (show BlkOk _law_right_N (relS _ (defScope _law_right_s)) _ [("_law_there", 10)] from blkOk_by (by decide +kernel)) (fun _ _ _ _ _ => (pg_name (i := 10) sc__law_right.nd rfl (Or.inl rfl))) (fun _ _ _ _ _ => pts_nil) (fun _ _ _ _ _ => (pe_cmpR (k_neD (K := K) hr.units) (pe_call G__law_common (hr.mono (by omega)) (by rfl) T.m__law_common T.F__law_common.kp T.b__law_common .nil pass0 (pa_cons (pv 9) (pa_cons (pv 10) pa_nil))) (pe_lst pa_nil) (nomark _)))) pa_nil)))) pa_nil))))
        (pss_one (ps_ret pe_bl)) pss_nil)
      (pss_cons (ps_if (PW.pt (pw_or (pt_not (pt_val (pe_callG (runsG G__law_numbers_right hg T.b__law_numbers_right) (hr.mono (by omega)) (by rfl) T.m__law_numbers_right T.F__law_numbers_right.kp (pa_cons (pv 2) (pa_cons (pv 1) (pa_cons (pv 3) (pa_cons (pv 4) (pa_cons (pv 5) pa_nil)))))))) (pw_or1 (pt_not (pt_val (pe_callG (runsG G__law_judged_right hg T.b__law_judged_right) (hr.mono (by omega)) (by rfl) T.m__law_judged_right T.F__law_judged_right.kp (pa_cons (pv 0) (pa_cons (pv 2) (pa_cons (pv 3) (pa_cons (pv 4) (pa_cons (pv 5) pa_nil)))))))))))
        (pss_one (ps_ret pe_bl)) pss_nil)
      (pss_one (ps_ret (pe_and (pe_callG (runsG G__law_among_right hg T.b__law_among_right) (hr.mono (by omega)) (by rfl) T.m__law_among_right T.F__law_among_right.kp (pa_cons (pv 2) (pa_cons (pv 1) (pa_cons (pv 3) (pa_cons (pv 4) (pa_cons (pv 5) pa_nil)))))) (pe_one (pe_cmpR (op_eqI (runsOk G_Tree_eq T.b_Tree_eq) (hr.mono (by omega)) U.me_eq) (pv 2) (pe_make U.M_Tree G_Tree_init (hr.mono (by omega)) (by rfl) U.m_Tree T.b_Tree_init .nil pass0 (pa_cons (pv 1) pa_nil)) (nomark _)))))))))))), ?_⟩
  have kn0 : Kn (fun a => a = p) H := fun b z => by rw [z]; exact hp.some
  obtain ⟨S, hS⟩ : ∃ S : Addr → Prop, S = fun a => a = p := ⟨_, rfl⟩
  rw [← hS] at kn0
  have hSp : S p := by rw [hS]
  have knB : ∀ {H'}, SameBut p H H' → PotAt H' p → Kn S H' := fun {H'} sb pt => kn_bt kn0 sb pt.some
  refine s_seq (s_set (t_call2 (t_var rfl (t_c ⟨S, p, 6, rfl, kn0, hSp, hp, by decide, by decide, fun vs H1 t sb1 pt1 sh du1 => nx_of ?_⟩))))
  have ok := sh.ok
  have fl := sh.fl
  have m7 : (mem t).length ≤ 7 := Nat.le_trans sh.mem (by decide)
  have pre : preW t := ⟨m7, Nat.le_trans sh.len (by decide)⟩
  have preC := preW_con pre
  have okC := okt_con ok
  have preL6 : preL 6 t := ⟨preOf ok, Nat.le_trans sh.len (by decide)⟩
  have pre8 : preL8 t := ⟨preL6, m7⟩
  have cc : con (con t) = t := by rw [con_con t ok.1]; exact fl
  have kn1 := knB sb1 pt1
  refine s_seq (a_cons (mk_tree (S := S) t ok kn1 (fun Q' q' => t_var rfl (q' _ _ (Same.refl _) du1)) fun x H2 s2 hx2 => a_cons (t_call1 (t_var rfl ⟨S, t, kn1.same s2, .cons (dp_same (off_same s2) _ _ du1) .nil, preL6, fun vt H3 s3 dt3 => a_nil ⟨_, _, rfl, nx_of ?_⟩⟩))))
  have s13 := s2.trans s3
  have kn3 := kn1.same s13
  have du3 := dp_same (off_same s13) _ _ du1
  refine s_seq (s_asgg (t_tup (a_cons (t_call1 (t_var rfl ⟨S, t, kn3, .cons du3 .nil, pre8, fun vn0 H4 s4 dn4 => a_cons (t_call1 (t_var rfl ⟨S, t, kn3.same s4, .cons (dp_same (off_same s4) _ _ du3) .nil, pre8, fun vf0 H5' s5' df5 => a_nil ⟨le2, fun r hr => ?_⟩⟩))⟩)))))
  have sr := same_new (o := HO.tup [vn0, vf0]) hr
  refine g_tup2 (d1 := nLL (smeets t)) (d2 := nLL (smeets (con t))) (dp_newT ((kn3.same s4).same s5') hr (.cons (dp_same (off_same s5') _ _ dn4) (.cons df5 .nil))) fun vn vf dn5 df5' => nx_of ?_
  have s5 := s5'.trans sr
  generalize upd H5' r (.tup [vn0, vf0]) = H5 at *
  have s35 := s4.trans s5
  have s15 := s13.trans s35
  have kn5 := kn1.same s15
  have hx5 : TreeAt K C (off S H5) t x := hx2.same (off_same (s3.trans s35))
  have du5 : Dp K (off S H5) vs (tD t) := dp_same (off_same s35) _ _ du3
  have dt5 : Dp K (off S H5) vt (nL (mem t)) := dp_same (off_same s35) _ _ dt3
  clear df5
  have df5 := df5'
  have sb5 := sb_trans sb1 (sbut s15)
  have pt5 := pt1.same s15
  clear dn4 dt3 du3 hx2 du1 kn1 kn3 df5'
  have neN := smeets_ne ok.1
  have neF := smeets_ne okC.1
  have smN := smeets_small m7
  have smF := smeets_small (t := con t) (by rw [mem_con]; exact m7)
  have l100N : ∀ m ∈ smeets t, m.length ≤ 100 := fun m hm => Nat.le_trans (smN.1 m hm).2 (by decide)
  have l100F : ∀ m ∈ smeets (con t), m.length ≤ 100 := fun m hm => Nat.le_trans (smF.1 m hm).2 (by decide)
  obtain ⟨nn, nm, niceR, nn1, nm1⟩ := nice_rows m7
  refine s_seq ?_
  show iRng1 (tCons (tC (.int 2)) tNil) _ _ _
  refine r_rng (a_cons (t_c (a_nil ⟨2, rfl, by decide, by decide, ?_⟩)))
  refine for_it walk_range (fun i σ' H' => ∃ x6 x7 x8 : Option V, σ' = [some (.ref p), some vs, some (.ref x), some vt, some vn, some vf, x6, x7, x8, none, none] ∧ Same H5 H') ⟨_, _, _, rfl, Same.refl _⟩ (fun _ _ _ _ _ => trivial) ?_ ?_
  · rintro i x0 σ' Ha Hb hi ⟨x6, x7, x8, rfl, sa⟩ ⟨rfl, rfl⟩
    refine g_name ?_
    have kna := kn5.same sa
    have hxa := hx5.same (off_same sa)
    refine s_seq (s_set (t_lst (a_cons (t_call1 (t_var rfl ⟨S, old Hb, t, x, rfl, old_of kna, kn_old, hxa, ok, pre, fun v0 H6 s6 n0 => a_cons (t_call1 (t_var rfl ⟨S, old H6, t, x, rfl, old_of (kna.same s6), kn_old, hxa.same (off_same s6), ok, pre, fun v1 H7 s7 n1 => a_cons (t_k0 (a_cons (t_inv rfl (kna.same (s6.trans s7)) (hxa.same (off_same (s6.trans s7))) ok fun y H8 s8 hy => a_nil ⟨rfl, S, old H8, con t, y, rfl, old_of ((kna.same (s6.trans s7)).same s8), kn_old, hy, okC, preC, fun v2 H9 s9 n2 => a_cons (t_k0 (a_cons (t_inv rfl (((kna.same (s6.trans s7)).same s8).same s9) (hxa.same (off_same ((s6.trans s7).trans (s8.trans s9)))) ok fun y2 H10 s10 hy2 => a_nil ⟨rfl, S, old H10, con t, y2, rfl, old_of ((((kna.same (s6.trans s7)).same s8).same s9).same s10), kn_old, hy2, okC, preC, fun v3 H11 s11 n3 => a_nil ⟨le4, fun l hl => nx_of ?_⟩⟩)))⟩)))⟩))⟩)))))
    replace n3 : Np (off (old H10) H11) v3 (nLL (smeets (con (con t)))) := n3
    rw [cc] at n3
    have r0 := row_of n0 neN l100N
    have r1 := row_of n1 neF l100F
    have r2 := (row_of n2 neF l100F)
    have r3 := row_of n3 neN l100N
    have sl := same_new (o := HO.lst [v0, v1, v2, v3]) hl
    have hl12 : (upd H11 l (.lst [v0, v1, v2, v3])) l = some (.lst [v0, v1, v2, v3]) := upd_same
    generalize upd H11 l (.lst [v0, v1, v2, v3]) = H12 at *
    have s1112 := sl
    have s1012 := s11.trans s1112
    have s912 := s10.trans s1012
    have s812 := s9.trans s912
    have s712 := s8.trans s812
    have s612 := s7.trans s712
    have sb12 := s6.trans s612
    have dTold : Dp K H12 (.ref l) (.list (rowsD t)) := .lst (sqL hl12) (.cons (dp_same (off_sub.trans s612) _ _ n0.dp) (.cons (dp_same (off_sub.trans s712) _ _ n1.dp) (.cons (dp_same (off_sub.trans s912) _ _ n2.dp) (.cons (dp_same (off_sub.trans s1112) _ _ n3.dp) .nil))))
    have sx := sa.trans sb12
    refine s_seq (s_if (b_test (t_op (t_cb1 (t_var rfl ⟨_, _, rfl, tells_list dTold niceR nn1 nm1, t_cb1 (t_lst (a_cons (t_var rfl (a_cons (t_var rfl (a_cons (t_var rfl (a_cons (t_var rfl (a_nil ⟨le4, fun l2 hl2 => ?_⟩))))))))))⟩)))))
    have dDue := dp_newL (K := K) (ds := rowsD t) (kn5.same sx) hl2 (.cons (dp_same (off_same sx) _ _ dn5) (.cons (dp_same (off_same sx) _ _ df5) (.cons (dp_same (off_same sx) _ _ df5) (.cons (dp_same (off_same sx) _ _ dn5) .nil))))
    have sl2 := same_new (o := HO.lst [vn, vf, vf, vn]) hl2
    have hl13 := sl2 _ _ hl12
    generalize upd H12 l2 (.lst [vn, vf, vf, vn]) = H13 at *
    refine ⟨_, _, rfl, tells_list (dp_same off_sub _ _ dDue) niceR nn1 nm1, ne_self ⟨_, rfl, ifF rfl (s_next ?_)⟩⟩
    have s613 := s612.trans sl2
    have s713 := s712.trans sl2
    have s1013 := s1012.trans sl2
    have s1113 := s1112.trans sl2
    obtain ⟨Hs, e0, e1, e2, e3, e4⟩ : ∃ Hs : Nat → Hp, Hs 0 = Hb ∧ Hs 1 = H6 ∧ Hs 2 = H8 ∧ Hs 3 = H10 ∧ Hs 4 = H11 := ⟨fun i => match i with | 0 => Hb | 1 => H6 | 2 => H8 | 3 => H10 | _ => H11, rfl, rfl, rfl, rfl, rfl⟩
    have fct : ∀ i v, [v0, v1, v2, v3][i]? = some v → Row (Hs i) (Hs (i + 1)) v ∧ Same Hb (Hs i) ∧ Same (Hs i) (Hs (i + 1)) ∧ Same (Hs (i + 1)) H13 := fun i v hv => by
      match i, hv with
      | 0, hv => cases hv; rw [e0, e1]; exact ⟨r0, Same.refl _, s6, s613⟩
      | 1, hv => cases hv; rw [e1, e2]; exact ⟨r1.same s8, s6, s7.trans s8, s812.trans sl2⟩
      | 2, hv => cases hv; rw [e2, e3]; exact ⟨r2.same s10, (s6.trans s7).trans s8, s9.trans s10, s1013⟩
      | 3, hv => cases hv; rw [e3, e4]; exact ⟨r3, ((s6.trans s7).trans s8).trans (s9.trans s10), s11, s1113⟩
      | i + 4, hv => simp at hv
    have hsl : ∀ i, i ≤ 4 → Hs i l = none := fun i hi => by
      match i, hi with
      | 0, _ => rw [e0]; exact (s6.trans ((s7.trans s8).trans ((s9.trans s10).trans s11))).free hl
      | 1, _ => rw [e1]; exact ((s7.trans s8).trans ((s9.trans s10).trans s11)).free hl
      | 2, _ => rw [e2]; exact ((s9.trans s10).trans s11).free hl
      | 3, _ => rw [e3]; exact s11.free hl
      | 4, _ => rw [e4]; exact hl
    have kp0 : Keep Hb (Hs 0) H13 H13 := fun c u h => h.elim (fun h => (sb12.trans sl2) c u h) fun h => h.2
    refine .inl (t_var rfl ⟨l, rfl, ⟨_, sqL hl13⟩, for_it (walk_list (K := K) (a := l) (xs := [v0, v1, v2, v3])) (fun j σ' H' => ∃ x8 : Option V, σ' = [some (.ref p), some vs, some (.ref x), some vt, some vn, some vf, some (.int (0 + (i : Nat))), some (.ref l), x8, none, none] ∧ Keep Hb (Hs j) H13 H') ⟨_, rfl, kp0⟩ (fun j σ' H' hj ⟨_, _, kp⟩ => sqL (kp l _ (.inr ⟨hsl j hj, hl13⟩))) ?_ ?_⟩)
    · rintro j xv σ2 Hc Hd hj ⟨y8, rfl, kp⟩ ⟨rfl, hxv⟩
      obtain ⟨⟨o, b, xs, ys, rfl, ho, ho2, hb, hb2, hy⟩, f1, f2, f3⟩ := fct j xv hxv
      have co := kp o _ (.inr ⟨ho, f3 _ _ ho2⟩)
      have cb := kp b _ (.inr ⟨hb, f3 _ _ hb2⟩)
      refine g_name (s_seq (s_drop (t_bm (t_op (t_var rfl (t_c (.inl ⟨o, _, ((0 : Nat) : Int), .ref b, rfl, rfl, sqL co, atI_nat rfl, ⟨.inl ⟨rfl, _, sqL cb⟩, a_cons (t_c (a_nil ⟨b, ys, _, rfl, rfl, cb, Nat.lt_of_le_of_lt hy (by decide), nx_of ?_⟩))⟩⟩)))))))
      have kp' := keep_step (u1 := .lst (ys ++ [.int 0])) (u2 := .lst []) f1 f2 ho (some_ne ho2) hb (some_ne hb2) kp
      have ho3 : ∃ zs, (upd Hd b (.lst (ys ++ [.int 0]))) o = some (.lst zs) := by
        by_cases e : o = b
        · subst e; exact ⟨_, upd_same⟩
        · exact ⟨_, by rw [upd_ne e]; exact co⟩
      obtain ⟨zs, ho3⟩ := ho3
      exact s_drop (t_bm0 (t_var rfl ⟨.inl ⟨rfl, _, sqL ho3⟩, o, zs, rfl, rfl, ho3, nx_of ⟨_, rfl, kp'⟩⟩))
    · rintro σ2 Hc ⟨y8, rfl, kp⟩
      exact nx_of ⟨_, _, _, rfl, sa.trans fun c u h => kp c u (.inl h)⟩
  rintro σ' H6 ⟨x6, x7, x8, rfl, s6⟩
  have kn6 := kn5.same s6
  have hx6 : TreeAt K C (off S H6) t x := hx5.same (off_same s6)
  have du6 := dp_same (off_same s6) _ _ du5
  have dt6 := dp_same (off_same s6) _ _ dt5
  have dn6 := dp_same (off_same s6) _ _ dn5
  have df6 := dp_same (off_same s6) _ _ df5
  have sb6 := sb_trans sb5 (sbut s6)
  have pt6 := pt5.same s6
  refine nx_of (s_seq (s_if (b_not (b_val (t_cb1 (lcM false (smeets t) nL (fun _ => .bool true) kn6 (fun Q q => t_var rfl (q _ _ (Same.refl _) dn6)) (by omega) (fun _ => rfl) (fun m hm z H7 S7 s7 kn7 dz hS7 ho7 Q q => ?_) fun D H7 ys hD s7 hd7 h7 => ?_))))))
  · refine t_cb1 (lcM false (smeets (con t)) nL (fun _ => .bool true) kn7 (fun Q q => t_var rfl (q _ _ (Same.refl _) (dp_same ho7 _ _ df6))) (by omega) (fun _ => rfl) (fun c hc z2 H8 S8 s8 kn8 dz2 hS8 ho8 Q q => ?_) fun D H8 ys hD s8 hd8 h8 => ?_)
    · refine t_op (t_call2 (t_var rfl (t_var rfl ⟨S8, (m, c), kn8, .cons (dp_same ho8 _ _ dz) (.cons dz2 .nil), Nat.le_trans (smN.1 m hm).2 (by decide), fun u H9 s9 d9 => t_lst0 fun D2 hD2 => ?_⟩)))
      have sD := same_new (o := HO.lst []) hD2
      exact neD_nil (dp_same (off_same sD) _ _ d9) (dp_newL (kn8.same s9) hD2 .nil) (cross ok.1 hm hc) (q _ _ (s9.trans sD) (.bl true))
    · refine all_d (bs := (smeets (con t)).map fun _ => true) off_sub (by rw [List.map_map]; exact h8) ?_
      have e : ((smeets (con t)).map fun _ => true).all id = true := List.all_eq_true.mpr fun b hb => by
        obtain ⟨_, _, rfl⟩ := List.mem_map.mp hb; rfl
      rw [e]; exact q _ H8 s8 (.bl true)
  refine all_d (bs := (smeets t).map fun _ => true) off_sub (by rw [List.map_map]; exact h7) ?_
  have e : ((smeets t).map fun _ => true).all id = true := List.all_eq_true.mpr fun b hb => by
    obtain ⟨_, _, rfl⟩ := List.mem_map.mp hb; rfl
  rw [e]
  refine ⟨_, rfl, ifF rfl (s_next ?_)⟩
  have kn7 := kn6.same s7
  have hx7 := hx6.same (off_same s7)
  have du7 := dp_same (off_same s7) _ _ du6
  have dt7 := dp_same (off_same s7) _ _ dt6
  have dn7 := dp_same (off_same s7) _ _ dn6
  have df7 := dp_same (off_same s7) _ _ df6
  have sb7 := sb_trans sb6 (sbut s7)
  have pt7 := pt6.same s7
  clear du6 dt6 dn6 df6 hx6 kn6 h7 hd7 hD e
  refine s_seq (s_if (b_or (b_not (b_val (t_call (a_cons (t_var rfl (a_cons (t_var rfl (a_cons (t_var rfl (a_cons (t_var rfl (a_cons (t_var rfl (a_nil ⟨S, t, x, vs, vt, vn, vf, rfl, kn7, hx7, ok, pre, du7, dt7, dn7, df7, fun H8 s8 => ⟨_, rfl, ifF rfl ?_⟩⟩))))))))))))))))
  have pt8 := pt7.same s8
  have sb8 := sb_trans sb7 (sbut s8)
  refine b_not (b_val (t_call (a_cons (t_var rfl (a_cons (t_var rfl (a_cons (t_var rfl (a_cons (t_var rfl (a_cons (t_var rfl (a_nil ⟨S, p, t, x, vt, vn, vf, rfl, kn7.same s8, hSp, pt8, hx7.same (off_same s8), ok, m7, dp_same (off_same s8) _ _ dt7, dp_same (off_same s8) _ _ dn7, dp_same (off_same s8) _ _ df7, fun H9 sb9 pt9 => ⟨_, rfl, ifF rfl (s_next ?_)⟩⟩)))))))))))))
  have o9 := (off_same s8).trans (off_bt hSp sb9)
  have sb09 := sb_trans sb8 sb9
  have kn9 := knB sb09 pt9
  refine s_ret (t_andV (t_call (a_cons (t_var rfl (a_cons (t_var rfl (a_cons (t_var rfl (a_cons (t_var rfl (a_cons (t_var rfl (a_nil ⟨S, t, x, vs, vt, vn, vf, rfl, kn9, hx7.same o9, ok, m7, dp_same o9 _ _ du7, dp_same o9 _ _ dt7, dp_same o9 _ _ dn7, dp_same o9 _ _ df7, fun H10 s10 => bl_ifT (t_op (t_var rfl (mk_tree (S := S) t ok (kn9.same s10) (fun Q2 q2 => t_var rfl (q2 _ _ (Same.refl _) (dp_same (o9.trans (off_same s10)) _ _ du7))) fun z H11 s11 hz => ?_)))⟩)))))))))))))
  have hx11 := (hx7.same o9).same (off_same (s10.trans s11))
  refine ⟨isI_at hx11, .inl (isI_at hz), S, t, x, .ref z, rfl, (kn9.same s10).same s11, hx11, ok, .inl ⟨t, z, rfl, hz, ok, fun H12 s12 => ?_⟩⟩
  rw [sameT_refl]
  exact q H12 (sb_trans sb09 (sbut ((s10.trans s11).trans s12)))
end
end K31

set_option maxRecDepth 100000
set_option maxHeartbeats 4000000
namespace K31
open PySem PySem.Spec PyProof.Rows L2 Kh
theorem dp_script {K : PySem.W.Frag} {H : Hp} {p : Addr} {ns : List Int} (h : SqL K H p (ns.map V.int)) : Dp K H (.ref p) (.list (ns.map PyData.int)) := by
  refine .lst h ?_
  clear h
  induction ns with
  | nil => exact .nil
  | cons n ns ih => exact .cons (.int n) ih
theorem two_of (n : Nat) : ∃ m : Nat, 1 ≤ m ∧ m ≤ 2 ∧ (if (if (n : Int) < 2 then (n : Int) else 2) > 1 then (if (n : Int) < 2 then (n : Int) else 2) else 1) = (m : Int) := by
  by_cases h : (n : Int) < 2
  · rw [if_pos h]
    by_cases h2 : (n : Int) > 1
    · rw [if_pos h2]; exact ⟨n, by omega, by omega, rfl⟩
    · rw [if_neg h2]; exact ⟨1, by decide, by decide, rfl⟩
  · rw [if_neg h, if_pos (by decide)]; exact ⟨2, by decide, by decide, rfl⟩
/-- [e for x in range(n)], e a truth value -/
theorem lc_rngB {K : PySem.W.Frag} {S : Addr → Prop} {H : Hp} {σ : L2.St} {te : TE} {sl : Nat} {vs : List Nat} {Q : VK} {n : Nat} {ta : TA} (f : Nat → Bool) (kn : Kn S H) (hn : n ≤ 1000)
    (hev : ∀ q : List V → Hp → Prop, (∀ H1, Same H H1 → q [.int (n : Nat)] H1) → ta σ H q) (hw : ∀ x, wipe ((wipe σ vs).set sl (some x)) vs = wipe σ vs)
    (body : ∀ j H1 S', j < n → Same H H1 → Kn S' H1 → (∀ a, S a → S' a) → Same (off S H) (off S' H1) → ∀ Q : VK, (∀ H', Same H1 H' → Q (.bl (f j)) H') → te ((wipe σ vs).set sl (some (.int (j : Nat)))) H1 Q)
    (done : ∀ D H1, Same H H1 → Dp K (off S H1) (.ref D) (.list (((List.range n).map f).map PyData.bool)) → Q (.ref D) H1) :
    tLc (iRng1 ta) (gName sl) tYes te vs σ H Q := by
  refine lc_rngF (K := K) (n := n) (fun _ => true) (fun j => .bool (f j)) kn (by omega) hev hw (fun j H1 S' _ _ _ _ _ Q q => q H1 (Same.refl _)) (fun j H1 S' hj _ s kn' hS ho Q q => body j H1 S' hj s kn' hS ho Q fun H' s' => q _ H' s' (.bl _)) fun D H1 ys hD s hd h => ?_
  refine done D H1 s ?_
  have e : (((List.range n).filter fun _ => true).map fun j => PyData.bool (f j)) = ((List.range n).map f).map PyData.bool := by
    rw [List.map_map, List.filter_eq_self.mpr (fun _ _ => rfl)]; rfl
  rw [← e]; exact h
section
variable {P : Program} {w : World} {K : PySem.W.Frag} {mg : Str → Option Value} {base : Heap} {a : Nat → Addr} {fd : Nat → FuncData} {C : Addr} {tk : Nat → Tok}
/-- the law of a script -/
def spLaw (K : PySem.W.Frag) : Sp := fun vs H Q _ => ∃ (p : Addr) (ns : List Int), vs = [.ref p] ∧ SqL K H p (ns.map V.int) ∧ ns.length ≤ 100000 ∧ ∀ H', Q (.bl true) H'
theorem ok_law (T : Txt K mg a fd C tk) (U : TxC K mg a C) (D : TxD K C) (kw_how_many : kw1 K (fd 24) "tree") (kw_standing : kw1 K (fd 28) "tree") (kw_meetings : kw1 K (fd 32) "tree") (kw_cuts : kw1 K (fd 33) "tree")
    (kw_is_meeting : kwR K (fd 34) "tree" "value") (kw_is_cut : kwR K (fd 35) "tree" "value") (kw_meeting_among : kwR K (fd 36) "tree" "houses") : FnG P w K mg base 41 (a 60) (fd 60) ["_law_script"] (spLaw K) := by
  have G__law_pot := ok__law_pot (P := P) (w := w) (base := base) T
  have G__law_right := ok__law_right (P := P) (w := w) (base := base) T U D kw_how_many kw_standing kw_meetings kw_cuts kw_is_meeting kw_is_cut kw_meeting_among
  refine fun_okG T.F_law sc_law (fun vs H Q E h => by obtain ⟨_, _, rfl, _⟩ := h; rfl) (fun cdv A outer s H vs Q E hg hr h => ?_)
  obtain ⟨p, ns, rfl, hp, hl, q⟩ := h
  refine ⟨_, (pss_one (ps_ret (pe_callB (k_all (K := K) rfl) (by rfl) T.z_all (by decide +kernel) (pa_cons (pe_lc (own := [("_law_k", 1)]) (g := gName 1) (tt := tYes) rfl sc_law.nd (pi_range1 (by rfl) T.z_range (pa_cons (pe_callB (call_max2R rfl) (by rfl) T.z_max (by decide +kernel) (pa_cons pe_int (pa_cons (pe_callB (call_min2R rfl) (by rfl) T.z_min (by decide +kernel) (pa_cons pe_int (pa_cons (pe_callB (k_len (K := K)) (by rfl) T.z_len (by decide +kernel) (pa_cons (pv 0) pa_nil)) pa_nil))) pa_nil))) pa_nil)) (blkOk_by (own := [("_law_k", 1)]) (N := law_N) (sc := defScope law_s) (by decide +kernel)) (fun _ _ _ _ _ => (pg_name (i := 1) sc_law.nd rfl (Or.inl rfl))) (fun _ _ _ _ _ => pts_nil) (fun _ _ _ _ _ => (pe_callG (runsG G__law_right hg T.b__law_right) (hr.mono (by omega)) (by rfl) T.m__law_right T.F__law_right.kp (pa_cons (pe_call G__law_pot (hr.mono (by omega)) (by rfl) T.m__law_pot T.F__law_pot.kp T.b__law_pot .nil pass0 (pa_cons (pv 0) (pa_cons (pv 1) pa_nil))) pa_nil)))) pa_nil)))), ?_⟩
  have hd := dp_script hp
  obtain ⟨m, m1, m2, em⟩ := two_of ns.length
  refine s_ret (t_cb1 (lc_rngB (K := K) (n := m) (fun _ => true) (kn_no (H := H)) (by omega) (fun q' h' => ?_) (fun _ => rfl) (fun j H1 S' hj s1 kn1 hS ho Q' q' => ?_) fun L H1 s1 dL => ?_))
  · refine a_cons (t_cb2 (t_c (t_cb2 (t_c (t_cb1 (t_var rfl (len_d (Same.refl H) hd rfl ⟨_, _, rfl, ⟨_, _, rfl, a_nil ?_⟩⟩)))))))
    rw [List.length_map, em]
    exact h' H (Same.refl _)
  · refine t_call1 (t_call2 (t_var rfl (t_var rfl ⟨.ref p, ns, j, rfl, dp_same s1 _ _ hd, by omega, fun po H2 s2 hn pt => ⟨po, rfl, pt, fun H3 sb => q' H3 fun b o h => sb b o (ne_of_none h hn) (s2 b o h)⟩⟩)))
  · exact all_d (bs := (List.range m).map fun _ => true) off_sub dL (by rw [all_map fun _ _ => rfl]; exact q H1)
end
end K31

set_option maxRecDepth 100000
set_option maxHeartbeats 4000000
namespace K31
open PySem PySem.Spec PyProof.Rows L2 Kh
theorem all_mk {P : Program} {w : World} {K : PySem.W.Frag} {h : Heap} {mg : Str → Option Value} {fa C f0 f1 f2 f3 f4 f5 f6 f7 f8 f9 f10 f11 f12 f13 f14 f15 f16 f17 f18 f19 f20 f21 f22 f23 f24 f25 f26 f27 f28 f29 f30 f31 f32 f33 f34 f35 f36 f37 f38 f39 f40 f41 f42 f43 f44 f45 f46 f47 f48 f49 f50 f51 f52 f53 f54 f55 f56 f57 f58 f59 f60 p14 p15 : Addr} {tk0 tk1 tk2 tk3 tk4 tk5 : Tok} {rs14 rs15 : List Value} (X : K.In h) (G : h.Ns mainGlobals mg) (hfa : mg "law" = some (.ref fa))
    {od0 od1 od2 od3 od4 od5 od6 od7 od8 od9 od10 od11 od12 od13 od14 od15 od16 od17 od18 od19 od20 od21 od22 od23 od24 od25 od26 od27 od28 od29 od30 od31 od32 od33 od34 od35 od36 od37 od38 od39 od40 od41 od42 od43 od44 od45 od46 od47 od48 od49 od50 od51 od52 od53 od54 od55 od56 od57 od58 od59 od60 an0 an1 an2 an3 an4 an5 an6 an7 an8 an9 an10 an11 an12 an13 an14 an15 an16 an17 an18 an19 an20 an21 an22 an23 an24 an25 an26 an27 an28 an29 an30 an31 an32 an33 an34 an35 an36 an37 an38 an39 an40 an41 an42 an43 an44 an45 an46 an47 an48 an49 an50 an51 an52 an53 an54 an55 an56 an57 an58 an59 an60 : Option Addr} {sl0 sl1 sl2 sl3 sl4 sl5 sl6 sl7 sl8 sl9 sl10 sl11 sl12 sl13 sl14 sl15 sl16 sl17 sl18 sl19 sl20 sl21 sl22 sl23 sl24 sl25 sl26 sl27 sl28 sl29 sl30 sl31 sl32 sl33 sl34 sl35 sl36 sl37 sl38 sl39 sl40 sl41 sl42 sl43 sl44 sl45 sl46 sl47 sl48 sl49 sl50 sl51 sl52 sl53 sl54 sl55 sl56 sl57 sl58 sl59 sl60 : Array (Option Value)} {oc0 oc1 oc2 oc3 oc4 oc5 oc6 oc7 oc8 oc9 oc10 oc11 oc12 oc13 oc14 oc15 oc16 oc17 oc18 oc19 oc20 oc21 oc22 oc23 oc24 oc25 oc26 oc27 oc28 oc29 oc30 oc31 oc32 oc33 oc34 oc35 oc36 oc37 oc38 oc39 oc40 oc41 oc42 oc43 oc44 oc45 oc46 oc47 oc48 oc49 oc50 oc51 oc52 oc53 oc54 oc55 oc56 oc57 oc58 oc59 oc60 kV0 kV1 kV2 kV3 kV4 kV5 kV6 kV7 kV8 kV9 kV10 kV11 kV12 kV13 kV14 kV15 kV16 kV17 kV18 kV19 kV20 kV21 kV22 kV23 kV24 kV25 kV26 kV27 kV28 kV29 kV30 kV31 kV32 kV33 kV34 kV35 kV36 kV37 kV38 kV39 kV40 kV41 kV42 kV43 kV44 kV45 kV46 kV47 kV48 kV49 kV50 kV51 kV52 kV53 kV54 kV55 kV56 kV57 kV58 kV59 kV60 dc0 dc1 dc2 dc3 dc4 dc5 dc6 dc7 dc8 dc9 dc10 dc11 dc12 dc13 dc14 dc15 dc16 dc17 dc18 dc19 dc20 dc21 dc22 dc23 dc24 dc25 dc26 dc27 dc28 dc29 dc30 dc31 dc32 dc33 dc34 dc35 dc36 dc37 dc38 dc39 dc40 dc41 dc42 dc43 dc44 dc45 dc46 dc47 dc48 dc49 dc50 dc51 dc52 dc53 dc54 dc55 dc56 dc57 dc58 dc59 dc60 pm0 pm1 pm2 pm3 pm4 pm5 pm6 pm7 pm8 pm9 pm10 pm11 pm12 pm13 pm14 pm15 pm16 pm17 pm18 pm19 pm20 pm21 pm22 pm23 pm24 pm25 pm26 pm27 pm28 pm29 pm30 pm31 pm32 pm33 pm34 pm35 pm36 pm37 pm38 pm39 pm40 pm41 pm42 pm43 pm44 pm45 pm46 pm47 pm48 pm49 pm50 pm51 pm52 pm53 pm54 pm55 pm56 pm57 pm58 pm59 pm60 cd0 cd1 cd2 cd3 cd4 cd5 cd6 cd7 cd8 cd9 cd10 cd11 cd12 cd13 cd14 cd15 cd16 cd17 cd18 cd19 cd20 cd21 cd22 cd23 cd24 cd25 cd26 cd27 cd28 cd29 cd30 cd31 cd32 cd33 cd34 cd35 cd36 cd37 cd38 cd39 cd40 cd41 cd42 cd43 cd44 cd45 cd46 cd47 cd48 cd49 cd50 cd51 cd52 cd53 cd54 cd55 cd56 cd57 cd58 cd59 cd60 ct0 ct1 ct2 ct3 ct4 ct5 ct6 ct7 ct8 ct9 ct10 ct11 ct12 ct13 ct14 ct15 ct16 ct17 ct18 ct19 ct20 ct21 ct22 ct23 ct24 ct25 ct26 ct27 ct28 ct29 ct30 ct31 ct32 ct33 ct34 ct35 ct36 ct37 ct38 ct39 ct40 ct41 ct42 ct43 ct44 ct45 ct46 ct47 ct48 ct49 ct50 ct51 ct52 ct53 ct54 ct55 ct56 ct57 ct58 ct59 ct60 : Value}
    (a0 : PySem.W.nsIn K mainGlobals "is_integer" = some (some (.ref f0)))
    (l0 : K.lookup f0 = some ⟨oc0, od0, .func (PySem.W.fnOf "is_integer" "is_integer" (defArgs is_integer_s) (defBody is_integer_s) (defScope is_integer_s) .none kV0 dc0 pm0 an0 cd0 ct0), sl0⟩)
    (c0 : PySem.W.codeIn K cd0 "is_integer" = true)
    (k0 : PySem.W.keepIn K (.ref f0) = true)
    (a1 : PySem.W.nsIn K mainGlobals "is_count" = some (some (.ref f1)))
    (l1 : K.lookup f1 = some ⟨oc1, od1, .func (PySem.W.fnOf "is_count" "is_count" (defArgs is_count_s) (defBody is_count_s) (defScope is_count_s) .none kV1 dc1 pm1 an1 cd1 ct1), sl1⟩)
    (c1 : PySem.W.codeIn K cd1 "is_count" = true)
    (k1 : PySem.W.keepIn K (.ref f1) = true)
    (a2 : PySem.W.nsIn K mainGlobals "is_list" = some (some (.ref f2)))
    (l2 : K.lookup f2 = some ⟨oc2, od2, .func (PySem.W.fnOf "is_list" "is_list" (defArgs is_list_s) (defBody is_list_s) (defScope is_list_s) .none kV2 dc2 pm2 an2 cd2 ct2), sl2⟩)
    (c2 : PySem.W.codeIn K cd2 "is_list" = true)
    (k2 : PySem.W.keepIn K (.ref f2) = true)
    (a3 : PySem.W.nsIn K mainGlobals "is_number_below" = some (some (.ref f3)))
    (l3 : K.lookup f3 = some ⟨oc3, od3, .func (PySem.W.fnOf "is_number_below" "is_number_below" (defArgs is_number_below_s) (defBody is_number_below_s) (defScope is_number_below_s) .none kV3 dc3 pm3 an3 cd3 ct3), sl3⟩)
    (c3 : PySem.W.codeIn K cd3 "is_number_below" = true)
    (k3 : PySem.W.keepIn K (.ref f3) = true)
    (a4 : PySem.W.nsIn K mainGlobals "is_gate" = some (some (.ref f4)))
    (l4 : K.lookup f4 = some ⟨oc4, od4, .func (PySem.W.fnOf "is_gate" "is_gate" (defArgs is_gate_s) (defBody is_gate_s) (defScope is_gate_s) .none kV4 dc4 pm4 an4 cd4 ct4), sl4⟩)
    (c4 : PySem.W.codeIn K cd4 "is_gate" = true)
    (k4 : PySem.W.keepIn K (.ref f4) = true)
    (a5 : PySem.W.nsIn K mainGlobals "is_tree" = some (some (.ref f5)))
    (l5 : K.lookup f5 = some ⟨oc5, od5, .func (PySem.W.fnOf "is_tree" "is_tree" (defArgs is_tree_s) (defBody is_tree_s) (defScope is_tree_s) .none kV5 dc5 pm5 an5 cd5 ct5), sl5⟩)
    (c5 : PySem.W.codeIn K cd5 "is_tree" = true)
    (k5 : PySem.W.keepIn K (.ref f5) = true)
    (a6 : PySem.W.nsIn K mainGlobals "firm" = some (some (.ref f6)))
    (l6 : K.lookup f6 = some ⟨oc6, od6, .func (PySem.W.fnOf "firm" "firm" (defArgs firm_s) (defBody firm_s) (defScope firm_s) .none kV6 dc6 pm6 an6 cd6 ct6), sl6⟩)
    (c6 : PySem.W.codeIn K cd6 "firm" = true)
    (k6 : PySem.W.keepIn K (.ref f6) = true)
    (a7 : PySem.W.nsIn K mainGlobals "listed" = some (some (.ref f7)))
    (l7 : K.lookup f7 = some ⟨oc7, od7, .func (PySem.W.fnOf "listed" "listed" (defArgs listed_s) (defBody listed_s) (defScope listed_s) .none kV7 dc7 pm7 an7 cd7 ct7), sl7⟩)
    (c7 : PySem.W.codeIn K cd7 "listed" = true)
    (k7 : PySem.W.keepIn K (.ref f7) = true)
    (a8 : PySem.W.nsIn K mainGlobals "leaves" = some (some (.ref f8)))
    (l8 : K.lookup f8 = some ⟨oc8, od8, .func (PySem.W.fnOf "leaves" "leaves" (defArgs leaves_s) (defBody leaves_s) (defScope leaves_s) .none kV8 dc8 pm8 an8 cd8 ct8), sl8⟩)
    (c8 : PySem.W.codeIn K cd8 "leaves" = true)
    (k8 : PySem.W.keepIn K (.ref f8) = true)
    (a9 : PySem.W.nsIn K mainGlobals "depth" = some (some (.ref f9)))
    (l9 : K.lookup f9 = some ⟨oc9, od9, .func (PySem.W.fnOf "depth" "depth" (defArgs depth_s) (defBody depth_s) (defScope depth_s) .none kV9 dc9 pm9 an9 cd9 ct9), sl9⟩)
    (c9 : PySem.W.codeIn K cd9 "depth" = true)
    (k9 : PySem.W.keepIn K (.ref f9) = true)
    (a10 : PySem.W.nsIn K mainGlobals "contrary" = some (some (.ref f10)))
    (l10 : K.lookup f10 = some ⟨oc10, od10, .func (PySem.W.fnOf "contrary" "contrary" (defArgs contrary_s) (defBody contrary_s) (defScope contrary_s) .none kV10 dc10 pm10 an10 cd10 ct10), sl10⟩)
    (c10 : PySem.W.codeIn K cd10 "contrary" = true)
    (k10 : PySem.W.keepIn K (.ref f10) = true)
    (a11 : PySem.W.nsIn K mainGlobals "stands_in" = some (some (.ref f11)))
    (l11 : K.lookup f11 = some ⟨oc11, od11, .func (PySem.W.fnOf "stands_in" "stands_in" (defArgs stands_in_s) (defBody stands_in_s) (defScope stands_in_s) .none kV11 dc11 pm11 an11 cd11 ct11), sl11⟩)
    (c11 : PySem.W.codeIn K cd11 "stands_in" = true)
    (k11 : PySem.W.keepIn K (.ref f11) = true)
    (a12 : PySem.W.nsIn K mainGlobals "are_houses" = some (some (.ref f12)))
    (l12 : K.lookup f12 = some ⟨oc12, od12, .func (PySem.W.fnOf "are_houses" "are_houses" (defArgs are_houses_s) (defBody are_houses_s) (defScope are_houses_s) .none kV12 dc12 pm12 an12 cd12 ct12), sl12⟩)
    (c12 : PySem.W.codeIn K cd12 "are_houses" = true)
    (k12 : PySem.W.keepIn K (.ref f12) = true)
    (a13 : PySem.W.findIn K (.ref C) "__init__" = some (some (.ref f13)))
    (i13 : PySem.W.isFn K (.ref f13) = true)
    (l13 : K.lookup f13 = some ⟨oc13, od13, .func (PySem.W.fnOf "__init__" "Tree.__init__" (defArgs Tree_init_s) (defBody Tree_init_s) (defScope Tree_init_s) .none kV13 dc13 pm13 an13 cd13 ct13), sl13⟩)
    (c13 : PySem.W.codeIn K cd13 "Tree.__init__" = true)
    (k13 : PySem.W.keepIn K (.ref f13) = true)
    (a14 : PySem.W.findIn K (.ref C) "shape" = some (some (.ref p14)))
    (g14 : PySem.W.specialIn K (.ref p14) "__get__" = some (some (.builtin "property.__get__")))
    (t14 : PySem.W.takesIn K (.ref p14) = some true)
    (r14 : PySem.W.recIn K p14 "property" = some (.ref f14 :: rs14))
    (l14 : K.lookup f14 = some ⟨oc14, od14, .func (PySem.W.fnOf "shape" "Tree.shape" (defArgs Tree_shape_s) (defBody Tree_shape_s) (defScope Tree_shape_s) .none kV14 dc14 pm14 an14 cd14 ct14), sl14⟩)
    (c14 : PySem.W.codeIn K cd14 "Tree.shape" = true)
    (k14 : PySem.W.keepIn K (.ref f14) = true)
    (a15 : PySem.W.findIn K (.ref C) "is_plain" = some (some (.ref p15)))
    (g15 : PySem.W.specialIn K (.ref p15) "__get__" = some (some (.builtin "property.__get__")))
    (t15 : PySem.W.takesIn K (.ref p15) = some true)
    (r15 : PySem.W.recIn K p15 "property" = some (.ref f15 :: rs15))
    (l15 : K.lookup f15 = some ⟨oc15, od15, .func (PySem.W.fnOf "is_plain" "Tree.is_plain" (defArgs Tree_is_plain_s) (defBody Tree_is_plain_s) (defScope Tree_is_plain_s) .none kV15 dc15 pm15 an15 cd15 ct15), sl15⟩)
    (c15 : PySem.W.codeIn K cd15 "Tree.is_plain" = true)
    (k15 : PySem.W.keepIn K (.ref f15) = true)
    (a16 : PySem.W.findIn K (.ref C) "members" = some (some (.ref f16)))
    (i16 : PySem.W.isFn K (.ref f16) = true)
    (l16 : K.lookup f16 = some ⟨oc16, od16, .func (PySem.W.fnOf "members" "Tree.members" (defArgs Tree_members_s) (defBody Tree_members_s) (defScope Tree_members_s) .none kV16 dc16 pm16 an16 cd16 ct16), sl16⟩)
    (c16 : PySem.W.codeIn K cd16 "Tree.members" = true)
    (k16 : PySem.W.keepIn K (.ref f16) = true)
    (a17 : PySem.W.findIn K (.ref C) "stands" = some (some (.ref f17)))
    (i17 : PySem.W.isFn K (.ref f17) = true)
    (l17 : K.lookup f17 = some ⟨oc17, od17, .func (PySem.W.fnOf "stands" "Tree.stands" (defArgs Tree_stands_s) (defBody Tree_stands_s) (defScope Tree_stands_s) .none kV17 dc17 pm17 an17 cd17 ct17), sl17⟩)
    (c17 : PySem.W.codeIn K cd17 "Tree.stands" = true)
    (k17 : PySem.W.keepIn K (.ref f17) = true)
    (a18 : PySem.W.findIn K (.ref C) "__invert__" = some (some (.ref f18)))
    (i18 : PySem.W.isFn K (.ref f18) = true)
    (l18 : K.lookup f18 = some ⟨oc18, od18, .func (PySem.W.fnOf "__invert__" "Tree.__invert__" (defArgs Tree_invert_s) (defBody Tree_invert_s) (defScope Tree_invert_s) .none kV18 dc18 pm18 an18 cd18 ct18), sl18⟩)
    (c18 : PySem.W.codeIn K cd18 "Tree.__invert__" = true)
    (k18 : PySem.W.keepIn K (.ref f18) = true)
    (a19 : PySem.W.findIn K (.ref C) "__eq__" = some (some (.ref f19)))
    (i19 : PySem.W.isFn K (.ref f19) = true)
    (l19 : K.lookup f19 = some ⟨oc19, od19, .func (PySem.W.fnOf "__eq__" "Tree.__eq__" (defArgs Tree_eq_s) (defBody Tree_eq_s) (defScope Tree_eq_s) .none kV19 dc19 pm19 an19 cd19 ct19), sl19⟩)
    (c19 : PySem.W.codeIn K cd19 "Tree.__eq__" = true)
    (k19 : PySem.W.keepIn K (.ref f19) = true)
    (a20 : PySem.W.nsIn K mainGlobals "lists_of" = some (some (.ref f20)))
    (l20 : K.lookup f20 = some ⟨oc20, od20, .func (PySem.W.fnOf "lists_of" "lists_of" (defArgs lists_of_s) (defBody lists_of_s) (defScope lists_of_s) .none kV20 dc20 pm20 an20 cd20 ct20), sl20⟩)
    (c20 : PySem.W.codeIn K cd20 "lists_of" = true)
    (k20 : PySem.W.keepIn K (.ref f20) = true)
    (a21 : PySem.W.nsIn K mainGlobals "stands_barely" = some (some (.ref f21)))
    (l21 : K.lookup f21 = some ⟨oc21, od21, .func (PySem.W.fnOf "stands_barely" "stands_barely" (defArgs stands_barely_s) (defBody stands_barely_s) (defScope stands_barely_s) .none kV21 dc21 pm21 an21 cd21 ct21), sl21⟩)
    (c21 : PySem.W.codeIn K cd21 "stands_barely" = true)
    (k21 : PySem.W.keepIn K (.ref f21) = true)
    (a22 : PySem.W.nsIn K mainGlobals "mixed_meetings" = some (some (.ref f22)))
    (l22 : K.lookup f22 = some ⟨oc22, od22, .func (PySem.W.fnOf "mixed_meetings" "mixed_meetings" (defArgs mixed_meetings_s) (defBody mixed_meetings_s) (defScope mixed_meetings_s) .none kV22 dc22 pm22 an22 cd22 ct22), sl22⟩)
    (c22 : PySem.W.codeIn K cd22 "mixed_meetings" = true)
    (k22 : PySem.W.keepIn K (.ref f22) = true)
    (a23 : PySem.W.nsIn K mainGlobals "plain_count" = some (some (.ref f23)))
    (l23 : K.lookup f23 = some ⟨oc23, od23, .func (PySem.W.fnOf "plain_count" "plain_count" (defArgs plain_count_s) (defBody plain_count_s) (defScope plain_count_s) .none kV23 dc23 pm23 an23 cd23 ct23), sl23⟩)
    (c23 : PySem.W.codeIn K cd23 "plain_count" = true)
    (k23 : PySem.W.keepIn K (.ref f23) = true)
    (a24 : PySem.W.nsIn K mainGlobals "how_many" = some (some (.ref f24)))
    (l24 : K.lookup f24 = some ⟨oc24, od24, .func (PySem.W.fnOf "how_many" "how_many" (defArgs how_many_s) (defBody how_many_s) (defScope how_many_s) .none kV24 dc24 pm24 an24 cd24 ct24), sl24⟩)
    (c24 : PySem.W.codeIn K cd24 "how_many" = true)
    (k24 : PySem.W.keepIn K (.ref f24) = true)
    (a25 : PySem.W.nsIn K mainGlobals "product_of" = some (some (.ref f25)))
    (l25 : K.lookup f25 = some ⟨oc25, od25, .func (PySem.W.fnOf "product_of" "product_of" (defArgs product_of_s) (defBody product_of_s) (defScope product_of_s) .none kV25 dc25 pm25 an25 cd25 ct25), sl25⟩)
    (c25 : PySem.W.codeIn K cd25 "product_of" = true)
    (k25 : PySem.W.keepIn K (.ref f25) = true)
    (a26 : PySem.W.nsIn K mainGlobals "sum_of" = some (some (.ref f26)))
    (l26 : K.lookup f26 = some ⟨oc26, od26, .func (PySem.W.fnOf "sum_of" "sum_of" (defArgs sum_of_s) (defBody sum_of_s) (defScope sum_of_s) .none kV26 dc26 pm26 an26 cd26 ct26), sl26⟩)
    (c26 : PySem.W.codeIn K cd26 "sum_of" = true)
    (k26 : PySem.W.keepIn K (.ref f26) = true)
    (a27 : PySem.W.nsIn K mainGlobals "plain_sizes" = some (some (.ref f27)))
    (l27 : K.lookup f27 = some ⟨oc27, od27, .func (PySem.W.fnOf "plain_sizes" "plain_sizes" (defArgs plain_sizes_s) (defBody plain_sizes_s) (defScope plain_sizes_s) .none kV27 dc27 pm27 an27 cd27 ct27), sl27⟩)
    (c27 : PySem.W.codeIn K cd27 "plain_sizes" = true)
    (k27 : PySem.W.keepIn K (.ref f27) = true)
    (a28 : PySem.W.nsIn K mainGlobals "standing" = some (some (.ref f28)))
    (l28 : K.lookup f28 = some ⟨oc28, od28, .func (PySem.W.fnOf "standing" "standing" (defArgs standing_s) (defBody standing_s) (defScope standing_s) .none kV28 dc28 pm28 an28 cd28 ct28), sl28⟩)
    (c28 : PySem.W.codeIn K cd28 "standing" = true)
    (k28 : PySem.W.keepIn K (.ref f28) = true)
    (a29 : PySem.W.nsIn K mainGlobals "unions" = some (some (.ref f29)))
    (l29 : K.lookup f29 = some ⟨oc29, od29, .func (PySem.W.fnOf "unions" "unions" (defArgs unions_s) (defBody unions_s) (defScope unions_s) .none kV29 dc29 pm29 an29 cd29 ct29), sl29⟩)
    (c29 : PySem.W.codeIn K cd29 "unions" = true)
    (k29 : PySem.W.keepIn K (.ref f29) = true)
    (a30 : PySem.W.nsIn K mainGlobals "plain_meetings" = some (some (.ref f30)))
    (l30 : K.lookup f30 = some ⟨oc30, od30, .func (PySem.W.fnOf "plain_meetings" "plain_meetings" (defArgs plain_meetings_s) (defBody plain_meetings_s) (defScope plain_meetings_s) .none kV30 dc30 pm30 an30 cd30 ct30), sl30⟩)
    (c30 : PySem.W.codeIn K cd30 "plain_meetings" = true)
    (k30 : PySem.W.keepIn K (.ref f30) = true)
    (a31 : PySem.W.nsIn K mainGlobals "meetings_within" = some (some (.ref f31)))
    (l31 : K.lookup f31 = some ⟨oc31, od31, .func (PySem.W.fnOf "meetings_within" "meetings_within" (defArgs meetings_within_s) (defBody meetings_within_s) (defScope meetings_within_s) .none kV31 dc31 pm31 an31 cd31 ct31), sl31⟩)
    (c31 : PySem.W.codeIn K cd31 "meetings_within" = true)
    (k31 : PySem.W.keepIn K (.ref f31) = true)
    (a32 : PySem.W.nsIn K mainGlobals "meetings" = some (some (.ref f32)))
    (l32 : K.lookup f32 = some ⟨oc32, od32, .func (PySem.W.fnOf "meetings" "meetings" (defArgs meetings_s) (defBody meetings_s) (defScope meetings_s) .none kV32 dc32 pm32 an32 cd32 ct32), sl32⟩)
    (c32 : PySem.W.codeIn K cd32 "meetings" = true)
    (k32 : PySem.W.keepIn K (.ref f32) = true)
    (a33 : PySem.W.nsIn K mainGlobals "cuts" = some (some (.ref f33)))
    (l33 : K.lookup f33 = some ⟨oc33, od33, .func (PySem.W.fnOf "cuts" "cuts" (defArgs cuts_s) (defBody cuts_s) (defScope cuts_s) .none kV33 dc33 pm33 an33 cd33 ct33), sl33⟩)
    (c33 : PySem.W.codeIn K cd33 "cuts" = true)
    (k33 : PySem.W.keepIn K (.ref f33) = true)
    (a34 : PySem.W.nsIn K mainGlobals "is_meeting" = some (some (.ref f34)))
    (l34 : K.lookup f34 = some ⟨oc34, od34, .func (PySem.W.fnOf "is_meeting" "is_meeting" (defArgs is_meeting_s) (defBody is_meeting_s) (defScope is_meeting_s) .none kV34 dc34 pm34 an34 cd34 ct34), sl34⟩)
    (c34 : PySem.W.codeIn K cd34 "is_meeting" = true)
    (k34 : PySem.W.keepIn K (.ref f34) = true)
    (a35 : PySem.W.nsIn K mainGlobals "is_cut" = some (some (.ref f35)))
    (l35 : K.lookup f35 = some ⟨oc35, od35, .func (PySem.W.fnOf "is_cut" "is_cut" (defArgs is_cut_s) (defBody is_cut_s) (defScope is_cut_s) .none kV35 dc35 pm35 an35 cd35 ct35), sl35⟩)
    (c35 : PySem.W.codeIn K cd35 "is_cut" = true)
    (k35 : PySem.W.keepIn K (.ref f35) = true)
    (a36 : PySem.W.nsIn K mainGlobals "meeting_among" = some (some (.ref f36)))
    (l36 : K.lookup f36 = some ⟨oc36, od36, .func (PySem.W.fnOf "meeting_among" "meeting_among" (defArgs meeting_among_s) (defBody meeting_among_s) (defScope meeting_among_s) .none kV36 dc36 pm36 an36 cd36 ct36), sl36⟩)
    (c36 : PySem.W.codeIn K cd36 "meeting_among" = true)
    (k36 : PySem.W.keepIn K (.ref f36) = true)
    (a37 : PySem.W.nsIn K mainGlobals "cut_among" = some (some (.ref f37)))
    (l37 : K.lookup f37 = some ⟨oc37, od37, .func (PySem.W.fnOf "cut_among" "cut_among" (defArgs cut_among_s) (defBody cut_among_s) (defScope cut_among_s) .none kV37 dc37 pm37 an37 cd37 ct37), sl37⟩)
    (c37 : PySem.W.codeIn K cd37 "cut_among" = true)
    (k37 : PySem.W.keepIn K (.ref f37) = true)
    (a38 : PySem.W.nsIn K mainGlobals "_law_pot" = some (some (.ref f38)))
    (l38 : K.lookup f38 = some ⟨oc38, od38, .func (PySem.W.fnOf "_law_pot" "_law_pot" (defArgs _law_pot_s) (defBody _law_pot_s) (defScope _law_pot_s) .none kV38 dc38 pm38 an38 cd38 ct38), sl38⟩)
    (c38 : PySem.W.codeIn K cd38 "_law_pot" = true)
    (k38 : PySem.W.keepIn K (.ref f38) = true)
    (a39 : PySem.W.nsIn K mainGlobals "_law_draw" = some (some (.ref f39)))
    (l39 : K.lookup f39 = some ⟨oc39, od39, .func (PySem.W.fnOf "_law_draw" "_law_draw" (defArgs _law_draw_s) (defBody _law_draw_s) (defScope _law_draw_s) .none kV39 dc39 pm39 an39 cd39 ct39), sl39⟩)
    (c39 : PySem.W.codeIn K cd39 "_law_draw" = true)
    (k39 : PySem.W.keepIn K (.ref f39) = true)
    (a40 : PySem.W.nsIn K mainGlobals "_law_pick" = some (some (.ref f40)))
    (l40 : K.lookup f40 = some ⟨oc40, od40, .func (PySem.W.fnOf "_law_pick" "_law_pick" (defArgs _law_pick_s) (defBody _law_pick_s) (defScope _law_pick_s) .none kV40 dc40 pm40 an40 cd40 ct40), sl40⟩)
    (c40 : PySem.W.codeIn K cd40 "_law_pick" = true)
    (k40 : PySem.W.keepIn K (.ref f40) = true)
    (a41 : PySem.W.nsIn K mainGlobals "_law_mixed" = some (some (.ref f41)))
    (l41 : K.lookup f41 = some ⟨oc41, od41, .func (PySem.W.fnOf "_law_mixed" "_law_mixed" (defArgs _law_mixed_s) (defBody _law_mixed_s) (defScope _law_mixed_s) .none kV41 dc41 pm41 an41 cd41 ct41), sl41⟩)
    (c41 : PySem.W.codeIn K cd41 "_law_mixed" = true)
    (k41 : PySem.W.keepIn K (.ref f41) = true)
    (a42 : PySem.W.nsIn K mainGlobals "_law_names" = some (some (.ref f42)))
    (l42 : K.lookup f42 = some ⟨oc42, od42, .func (PySem.W.fnOf "_law_names" "_law_names" (defArgs _law_names_s) (defBody _law_names_s) (defScope _law_names_s) .none kV42 dc42 pm42 an42 cd42 ct42), sl42⟩)
    (c42 : PySem.W.codeIn K cd42 "_law_names" = true)
    (k42 : PySem.W.keepIn K (.ref f42) = true)
    (a43 : PySem.W.nsIn K mainGlobals "_law_parted" = some (some (.ref f43)))
    (l43 : K.lookup f43 = some ⟨oc43, od43, .func (PySem.W.fnOf "_law_parted" "_law_parted" (defArgs _law_parted_s) (defBody _law_parted_s) (defScope _law_parted_s) .none kV43 dc43 pm43 an43 cd43 ct43), sl43⟩)
    (c43 : PySem.W.codeIn K cd43 "_law_parted" = true)
    (k43 : PySem.W.keepIn K (.ref f43) = true)
    (a44 : PySem.W.nsIn K mainGlobals "_law_plain" = some (some (.ref f44)))
    (l44 : K.lookup f44 = some ⟨oc44, od44, .func (PySem.W.fnOf "_law_plain" "_law_plain" (defArgs _law_plain_s) (defBody _law_plain_s) (defScope _law_plain_s) .none kV44 dc44 pm44 an44 cd44 ct44), sl44⟩)
    (c44 : PySem.W.codeIn K cd44 "_law_plain" = true)
    (k44 : PySem.W.keepIn K (.ref f44) = true)
    (a45 : PySem.W.nsIn K mainGlobals "_law_any" = some (some (.ref f45)))
    (l45 : K.lookup f45 = some ⟨oc45, od45, .func (PySem.W.fnOf "_law_any" "_law_any" (defArgs _law_any_s) (defBody _law_any_s) (defScope _law_any_s) .none kV45 dc45 pm45 an45 cd45 ct45), sl45⟩)
    (c45 : PySem.W.codeIn K cd45 "_law_any" = true)
    (k45 : PySem.W.keepIn K (.ref f45) = true)
    (a46 : PySem.W.nsIn K mainGlobals "_law_shape" = some (some (.ref f46)))
    (l46 : K.lookup f46 = some ⟨oc46, od46, .func (PySem.W.fnOf "_law_shape" "_law_shape" (defArgs _law_shape_s) (defBody _law_shape_s) (defScope _law_shape_s) .none kV46 dc46 pm46 an46 cd46 ct46), sl46⟩)
    (c46 : PySem.W.codeIn K cd46 "_law_shape" = true)
    (k46 : PySem.W.keepIn K (.ref f46) = true)
    (a47 : PySem.W.nsIn K mainGlobals "_law_leaves" = some (some (.ref f47)))
    (l47 : K.lookup f47 = some ⟨oc47, od47, .func (PySem.W.fnOf "_law_leaves" "_law_leaves" (defArgs _law_leaves_s) (defBody _law_leaves_s) (defScope _law_leaves_s) .none kV47 dc47 pm47 an47 cd47 ct47), sl47⟩)
    (c47 : PySem.W.codeIn K cd47 "_law_leaves" = true)
    (k47 : PySem.W.keepIn K (.ref f47) = true)
    (a48 : PySem.W.nsIn K mainGlobals "_law_houses" = some (some (.ref f48)))
    (l48 : K.lookup f48 = some ⟨oc48, od48, .func (PySem.W.fnOf "_law_houses" "_law_houses" (defArgs _law_houses_s) (defBody _law_houses_s) (defScope _law_houses_s) .none kV48 dc48 pm48 an48 cd48 ct48), sl48⟩)
    (c48 : PySem.W.codeIn K cd48 "_law_houses" = true)
    (k48 : PySem.W.keepIn K (.ref f48) = true)
    (a49 : PySem.W.nsIn K mainGlobals "_law_stands" = some (some (.ref f49)))
    (l49 : K.lookup f49 = some ⟨oc49, od49, .func (PySem.W.fnOf "_law_stands" "_law_stands" (defArgs _law_stands_s) (defBody _law_stands_s) (defScope _law_stands_s) .none kV49 dc49 pm49 an49 cd49 ct49), sl49⟩)
    (c49 : PySem.W.codeIn K cd49 "_law_stands" = true)
    (k49 : PySem.W.keepIn K (.ref f49) = true)
    (a50 : PySem.W.nsIn K mainGlobals "_law_turned" = some (some (.ref f50)))
    (l50 : K.lookup f50 = some ⟨oc50, od50, .func (PySem.W.fnOf "_law_turned" "_law_turned" (defArgs _law_turned_s) (defBody _law_turned_s) (defScope _law_turned_s) .none kV50 dc50 pm50 an50 cd50 ct50), sl50⟩)
    (c50 : PySem.W.codeIn K cd50 "_law_turned" = true)
    (k50 : PySem.W.keepIn K (.ref f50) = true)
    (a51 : PySem.W.nsIn K mainGlobals "_law_lists" = some (some (.ref f51)))
    (l51 : K.lookup f51 = some ⟨oc51, od51, .func (PySem.W.fnOf "_law_lists" "_law_lists" (defArgs _law_lists_s) (defBody _law_lists_s) (defScope _law_lists_s) .none kV51 dc51 pm51 an51 cd51 ct51), sl51⟩)
    (c51 : PySem.W.codeIn K cd51 "_law_lists" = true)
    (k51 : PySem.W.keepIn K (.ref f51) = true)
    (a52 : PySem.W.nsIn K mainGlobals "_law_meetings" = some (some (.ref f52)))
    (l52 : K.lookup f52 = some ⟨oc52, od52, .func (PySem.W.fnOf "_law_meetings" "_law_meetings" (defArgs _law_meetings_s) (defBody _law_meetings_s) (defScope _law_meetings_s) .none kV52 dc52 pm52 an52 cd52 ct52), sl52⟩)
    (c52 : PySem.W.codeIn K cd52 "_law_meetings" = true)
    (k52 : PySem.W.keepIn K (.ref f52) = true)
    (a53 : PySem.W.nsIn K mainGlobals "_law_cuts" = some (some (.ref f53)))
    (l53 : K.lookup f53 = some ⟨oc53, od53, .func (PySem.W.fnOf "_law_cuts" "_law_cuts" (defArgs _law_cuts_s) (defBody _law_cuts_s) (defScope _law_cuts_s) .none kV53 dc53 pm53 an53 cd53 ct53), sl53⟩)
    (c53 : PySem.W.codeIn K cd53 "_law_cuts" = true)
    (k53 : PySem.W.keepIn K (.ref f53) = true)
    (a54 : PySem.W.nsIn K mainGlobals "_law_common" = some (some (.ref f54)))
    (l54 : K.lookup f54 = some ⟨oc54, od54, .func (PySem.W.fnOf "_law_common" "_law_common" (defArgs _law_common_s) (defBody _law_common_s) (defScope _law_common_s) .none kV54 dc54 pm54 an54 cd54 ct54), sl54⟩)
    (c54 : PySem.W.codeIn K cd54 "_law_common" = true)
    (k54 : PySem.W.keepIn K (.ref f54) = true)
    (a55 : PySem.W.nsIn K mainGlobals "_law_numbers_right" = some (some (.ref f55)))
    (l55 : K.lookup f55 = some ⟨oc55, od55, .func (PySem.W.fnOf "_law_numbers_right" "_law_numbers_right" (defArgs _law_numbers_right_s) (defBody _law_numbers_right_s) (defScope _law_numbers_right_s) .none kV55 dc55 pm55 an55 cd55 ct55), sl55⟩)
    (c55 : PySem.W.codeIn K cd55 "_law_numbers_right" = true)
    (k55 : PySem.W.keepIn K (.ref f55) = true)
    (a56 : PySem.W.nsIn K mainGlobals "_law_judged_right" = some (some (.ref f56)))
    (l56 : K.lookup f56 = some ⟨oc56, od56, .func (PySem.W.fnOf "_law_judged_right" "_law_judged_right" (defArgs _law_judged_right_s) (defBody _law_judged_right_s) (defScope _law_judged_right_s) .none kV56 dc56 pm56 an56 cd56 ct56), sl56⟩)
    (c56 : PySem.W.codeIn K cd56 "_law_judged_right" = true)
    (k56 : PySem.W.keepIn K (.ref f56) = true)
    (a57 : PySem.W.nsIn K mainGlobals "_law_is_in" = some (some (.ref f57)))
    (l57 : K.lookup f57 = some ⟨oc57, od57, .func (PySem.W.fnOf "_law_is_in" "_law_is_in" (defArgs _law_is_in_s) (defBody _law_is_in_s) (defScope _law_is_in_s) .none kV57 dc57 pm57 an57 cd57 ct57), sl57⟩)
    (c57 : PySem.W.codeIn K cd57 "_law_is_in" = true)
    (k57 : PySem.W.keepIn K (.ref f57) = true)
    (a58 : PySem.W.nsIn K mainGlobals "_law_among_right" = some (some (.ref f58)))
    (l58 : K.lookup f58 = some ⟨oc58, od58, .func (PySem.W.fnOf "_law_among_right" "_law_among_right" (defArgs _law_among_right_s) (defBody _law_among_right_s) (defScope _law_among_right_s) .none kV58 dc58 pm58 an58 cd58 ct58), sl58⟩)
    (c58 : PySem.W.codeIn K cd58 "_law_among_right" = true)
    (k58 : PySem.W.keepIn K (.ref f58) = true)
    (a59 : PySem.W.nsIn K mainGlobals "_law_right" = some (some (.ref f59)))
    (l59 : K.lookup f59 = some ⟨oc59, od59, .func (PySem.W.fnOf "_law_right" "_law_right" (defArgs _law_right_s) (defBody _law_right_s) (defScope _law_right_s) .none kV59 dc59 pm59 an59 cd59 ct59), sl59⟩)
    (c59 : PySem.W.codeIn K cd59 "_law_right" = true)
    (k59 : PySem.W.keepIn K (.ref f59) = true)
    (a60 : PySem.W.nsIn K mainGlobals "law" = some (some (.ref f60)))
    (l60 : K.lookup f60 = some ⟨oc60, od60, .func (PySem.W.fnOf "law" "law" (defArgs law_s) (defBody law_s) (defScope law_s) .none kV60 dc60 pm60 an60 cd60 ct60), sl60⟩)
    (c60 : PySem.W.codeIn K cd60 "law" = true)
    (k60 : PySem.W.keepIn K (.ref f60) = true)
    (aC : PySem.W.nsIn K mainGlobals "Tree" = some (some (.ref C)))
    (pg : PySem.W.plainGet K C Str.empty = true)
    (hd : PySem.W.hasDictIn K C = true)
    (po : PySem.W.plainOver K C = true)
    (sa : PySem.W.findIn K (.ref C) "__setattr__" = some (some (.builtin "object.__setattr__")))
    (mk : PySem.W.makesIn K C = true)
    (kc : PySem.W.keepIn K (.ref C) = true)
    (n1 : PySem.W.findIn K (.ref C) "_shape" = some none)
    (n2 : PySem.W.findIn K (.ref C) "_leaves" = some none)
    (n3 : PySem.W.findIn K (.ref C) "_members" = some none)
    (dha : PySem.W.findIn K (.ref C) "__class__" = some (some (.builtin "object.__class__")))
    (dhn : PySem.W.specialIn K (.builtin "object.__class__") "__get__" = some (some (.builtin "getset_descriptor.__get__")))
    (dht : PySem.W.takesIn K (.builtin "object.__class__") = some true)
    (dhm : PySem.W.mroIn K C (.type "object") = some true)
    (dow : PySem.W.kitOne K (.ref C) (.ref C) = some true)
    (dsf : PySem.W.selfFirst K C = true)
    (dne : PySem.W.findIn K (.ref C) "__ne__" = some (some (.builtin "object.__ne__")))
    (dob : PySem.W.subIn K (.ref C) (.type "object") = some true)
    (oNoneType : PySem.W.kitOne K (.type "NoneType") (.ref C) = some false)
    (qNoneType : PySem.W.notFirst K C (.type "NoneType") = true)
    (obool : PySem.W.kitOne K (.type "bool") (.ref C) = some false)
    (qbool : PySem.W.notFirst K C (.type "bool") = true)
    (oint : PySem.W.kitOne K (.type "int") (.ref C) = some false)
    (qint : PySem.W.notFirst K C (.type "int") = true)
    (ostr : PySem.W.kitOne K (.type "str") (.ref C) = some false)
    (qstr : PySem.W.notFirst K C (.type "str") = true)
    (olist : PySem.W.kitOne K (.type "list") (.ref C) = some false)
    (qlist : PySem.W.notFirst K C (.type "list") = true)
    (otuple : PySem.W.kitOne K (.type "tuple") (.ref C) = some false)
    (qtuple : PySem.W.notFirst K C (.type "tuple") = true)
    (vHOUSES : PySem.W.nsIn K mainGlobals "HOUSES" = some (some (.int 24 tk0)))
    (vMOST_LEAVES : PySem.W.nsIn K mainGlobals "MOST_LEAVES" = some (some (.int 24 tk1)))
    (vMOST_DEPTH : PySem.W.nsIn K mainGlobals "MOST_DEPTH" = some (some (.int 5 tk2)))
    (vMOST_MIXED : PySem.W.nsIn K mainGlobals "MOST_MIXED" = some (some (.int 8 tk3)))
    (vMOST_MEETINGS : PySem.W.nsIn K mainGlobals "MOST_MEETINGS" = some (some (.int 200 tk4)))
    (vMOST_CUTS : PySem.W.nsIn K mainGlobals "MOST_CUTS" = some (some (.int 200 tk5)))
    (zisinstance : PySem.W.nsIn K mainGlobals "isinstance" = some none)
    (zint : PySem.W.nsIn K mainGlobals "int" = some none)
    (zbool : PySem.W.nsIn K mainGlobals "bool" = some none)
    (zlist : PySem.W.nsIn K mainGlobals "list" = some none)
    (ztuple : PySem.W.nsIn K mainGlobals "tuple" = some none)
    (zlen : PySem.W.nsIn K mainGlobals "len" = some none)
    (zstr : PySem.W.nsIn K mainGlobals "str" = some none)
    (zmax : PySem.W.nsIn K mainGlobals "max" = some none)
    (zall : PySem.W.nsIn K mainGlobals "all" = some none)
    (zrange : PySem.W.nsIn K mainGlobals "range" = some none)
    (zproperty : PySem.W.nsIn K mainGlobals "property" = some none)
    (zany : PySem.W.nsIn K mainGlobals "any" = some none)
    (zsorted : PySem.W.nsIn K mainGlobals "sorted" = some none)
    (zzip : PySem.W.nsIn K mainGlobals "zip" = some none)
    (zenumerate : PySem.W.nsIn K mainGlobals "enumerate" = some none)
    (zsum : PySem.W.nsIn K mainGlobals "sum" = some none)
    (zabs : PySem.W.nsIn K mainGlobals "abs" = some none)
    (zdivmod : PySem.W.nsIn K mainGlobals "divmod" = some none)
    (zmin : PySem.W.nsIn K mainGlobals "min" = some none)
    (zset : PySem.W.nsIn K mainGlobals "set" = some none)
    (zrepr : PySem.W.nsIn K mainGlobals "repr" = some none)
    (zdict : PySem.W.nsIn K mainGlobals "dict" = some none)
    : ∃ fd : FuncData, (∀ (s : Shared) (u : Value), BindsTo s fd ⟨[u], []⟩ [("_law_script", u)]) ∧ ∀ base : Heap, K.In base → base.Ns mainGlobals mg → FnG P w K mg base 41 fa fd ["_law_script"] (spLaw K) := by
  have e : fa = f60 := by
    have q := hfa.symm.trans (PySem.W.mg_of X G a60)
    injection q with q
    injection q
  rw [e]
  have F0 := fun_mk (x := "is_integer") (qual := "is_integer") (st := is_integer_s) l0 c0 k0
  have F1 := fun_mk (x := "is_count") (qual := "is_count") (st := is_count_s) l1 c1 k1
  have F2 := fun_mk (x := "is_list") (qual := "is_list") (st := is_list_s) l2 c2 k2
  have F3 := fun_mk (x := "is_number_below") (qual := "is_number_below") (st := is_number_below_s) l3 c3 k3
  have F4 := fun_mk (x := "is_gate") (qual := "is_gate") (st := is_gate_s) l4 c4 k4
  have F5 := fun_mk (x := "is_tree") (qual := "is_tree") (st := is_tree_s) l5 c5 k5
  have F6 := fun_mk (x := "firm") (qual := "firm") (st := firm_s) l6 c6 k6
  have F7 := fun_mk (x := "listed") (qual := "listed") (st := listed_s) l7 c7 k7
  have F8 := fun_mk (x := "leaves") (qual := "leaves") (st := leaves_s) l8 c8 k8
  have F9 := fun_mk (x := "depth") (qual := "depth") (st := depth_s) l9 c9 k9
  have F10 := fun_mk (x := "contrary") (qual := "contrary") (st := contrary_s) l10 c10 k10
  have F11 := fun_mk (x := "stands_in") (qual := "stands_in") (st := stands_in_s) l11 c11 k11
  have F12 := fun_mk (x := "are_houses") (qual := "are_houses") (st := are_houses_s) l12 c12 k12
  have F13 := fun_mk (x := "__init__") (qual := "Tree.__init__") (st := Tree_init_s) l13 c13 k13
  have F14 := fun_mk (x := "shape") (qual := "Tree.shape") (st := Tree_shape_s) l14 c14 k14
  have F15 := fun_mk (x := "is_plain") (qual := "Tree.is_plain") (st := Tree_is_plain_s) l15 c15 k15
  have F16 := fun_mk (x := "members") (qual := "Tree.members") (st := Tree_members_s) l16 c16 k16
  have F17 := fun_mk (x := "stands") (qual := "Tree.stands") (st := Tree_stands_s) l17 c17 k17
  have F18 := fun_mk (x := "__invert__") (qual := "Tree.__invert__") (st := Tree_invert_s) l18 c18 k18
  have F19 := fun_mk (x := "__eq__") (qual := "Tree.__eq__") (st := Tree_eq_s) l19 c19 k19
  have F20 := fun_mk (x := "lists_of") (qual := "lists_of") (st := lists_of_s) l20 c20 k20
  have F21 := fun_mk (x := "stands_barely") (qual := "stands_barely") (st := stands_barely_s) l21 c21 k21
  have F22 := fun_mk (x := "mixed_meetings") (qual := "mixed_meetings") (st := mixed_meetings_s) l22 c22 k22
  have F23 := fun_mk (x := "plain_count") (qual := "plain_count") (st := plain_count_s) l23 c23 k23
  have F24 := fun_mk (x := "how_many") (qual := "how_many") (st := how_many_s) l24 c24 k24
  have F25 := fun_mk (x := "product_of") (qual := "product_of") (st := product_of_s) l25 c25 k25
  have F26 := fun_mk (x := "sum_of") (qual := "sum_of") (st := sum_of_s) l26 c26 k26
  have F27 := fun_mk (x := "plain_sizes") (qual := "plain_sizes") (st := plain_sizes_s) l27 c27 k27
  have F28 := fun_mk (x := "standing") (qual := "standing") (st := standing_s) l28 c28 k28
  have F29 := fun_mk (x := "unions") (qual := "unions") (st := unions_s) l29 c29 k29
  have F30 := fun_mk (x := "plain_meetings") (qual := "plain_meetings") (st := plain_meetings_s) l30 c30 k30
  have F31 := fun_mk (x := "meetings_within") (qual := "meetings_within") (st := meetings_within_s) l31 c31 k31
  have F32 := fun_mk (x := "meetings") (qual := "meetings") (st := meetings_s) l32 c32 k32
  have F33 := fun_mk (x := "cuts") (qual := "cuts") (st := cuts_s) l33 c33 k33
  have F34 := fun_mk (x := "is_meeting") (qual := "is_meeting") (st := is_meeting_s) l34 c34 k34
  have F35 := fun_mk (x := "is_cut") (qual := "is_cut") (st := is_cut_s) l35 c35 k35
  have F36 := fun_mk (x := "meeting_among") (qual := "meeting_among") (st := meeting_among_s) l36 c36 k36
  have F37 := fun_mk (x := "cut_among") (qual := "cut_among") (st := cut_among_s) l37 c37 k37
  have F38 := fun_mk (x := "_law_pot") (qual := "_law_pot") (st := _law_pot_s) l38 c38 k38
  have F39 := fun_mk (x := "_law_draw") (qual := "_law_draw") (st := _law_draw_s) l39 c39 k39
  have F40 := fun_mk (x := "_law_pick") (qual := "_law_pick") (st := _law_pick_s) l40 c40 k40
  have F41 := fun_mk (x := "_law_mixed") (qual := "_law_mixed") (st := _law_mixed_s) l41 c41 k41
  have F42 := fun_mk (x := "_law_names") (qual := "_law_names") (st := _law_names_s) l42 c42 k42
  have F43 := fun_mk (x := "_law_parted") (qual := "_law_parted") (st := _law_parted_s) l43 c43 k43
  have F44 := fun_mk (x := "_law_plain") (qual := "_law_plain") (st := _law_plain_s) l44 c44 k44
  have F45 := fun_mk (x := "_law_any") (qual := "_law_any") (st := _law_any_s) l45 c45 k45
  have F46 := fun_mk (x := "_law_shape") (qual := "_law_shape") (st := _law_shape_s) l46 c46 k46
  have F47 := fun_mk (x := "_law_leaves") (qual := "_law_leaves") (st := _law_leaves_s) l47 c47 k47
  have F48 := fun_mk (x := "_law_houses") (qual := "_law_houses") (st := _law_houses_s) l48 c48 k48
  have F49 := fun_mk (x := "_law_stands") (qual := "_law_stands") (st := _law_stands_s) l49 c49 k49
  have F50 := fun_mk (x := "_law_turned") (qual := "_law_turned") (st := _law_turned_s) l50 c50 k50
  have F51 := fun_mk (x := "_law_lists") (qual := "_law_lists") (st := _law_lists_s) l51 c51 k51
  have F52 := fun_mk (x := "_law_meetings") (qual := "_law_meetings") (st := _law_meetings_s) l52 c52 k52
  have F53 := fun_mk (x := "_law_cuts") (qual := "_law_cuts") (st := _law_cuts_s) l53 c53 k53
  have F54 := fun_mk (x := "_law_common") (qual := "_law_common") (st := _law_common_s) l54 c54 k54
  have F55 := fun_mk (x := "_law_numbers_right") (qual := "_law_numbers_right") (st := _law_numbers_right_s) l55 c55 k55
  have F56 := fun_mk (x := "_law_judged_right") (qual := "_law_judged_right") (st := _law_judged_right_s) l56 c56 k56
  have F57 := fun_mk (x := "_law_is_in") (qual := "_law_is_in") (st := _law_is_in_s) l57 c57 k57
  have F58 := fun_mk (x := "_law_among_right") (qual := "_law_among_right") (st := _law_among_right_s) l58 c58 k58
  have F59 := fun_mk (x := "_law_right") (qual := "_law_right") (st := _law_right_s) l59 c59 k59
  have F60 := fun_mk (x := "law") (qual := "law") (st := law_s) l60 c60 k60
  have b0 := F0.binds (ps := ["value"]) fun _ _ _ _ _ _ us hl => match us, hl with | [_], _ => rfl
  have b1 := F1.binds (ps := ["value"]) fun _ _ _ _ _ _ us hl => match us, hl with | [_], _ => rfl
  have b2 := F2.binds (ps := ["value"]) fun _ _ _ _ _ _ us hl => match us, hl with | [_], _ => rfl
  have b3 := F3.binds (ps := ["value", "many"]) fun _ _ _ _ _ _ us hl => match us, hl with | [_, _], _ => rfl
  have b4 := F4.binds (ps := ["value"]) fun _ _ _ _ _ _ us hl => match us, hl with | [_], _ => rfl
  have b5 := F5.binds (ps := ["value"]) fun _ _ _ _ _ _ us hl => match us, hl with | [_], _ => rfl
  have b6 := F6.binds (ps := ["shape"]) fun _ _ _ _ _ _ us hl => match us, hl with | [_], _ => rfl
  have b7 := F7.binds (ps := ["shape"]) fun _ _ _ _ _ _ us hl => match us, hl with | [_], _ => rfl
  have b8 := F8.binds (ps := ["shape"]) fun _ _ _ _ _ _ us hl => match us, hl with | [_], _ => rfl
  have b9 := F9.binds (ps := ["shape"]) fun _ _ _ _ _ _ us hl => match us, hl with | [_], _ => rfl
  have b10 := F10.binds (ps := ["shape"]) fun _ _ _ _ _ _ us hl => match us, hl with | [_], _ => rfl
  have b11 := F11.binds (ps := ["shape", "houses"]) fun _ _ _ _ _ _ us hl => match us, hl with | [_, _], _ => rfl
  have b12 := F12.binds (ps := ["members", "value"]) fun _ _ _ _ _ _ us hl => match us, hl with | [_, _], _ => rfl
  have b13 := F13.binds (ps := ["self", "shape"]) fun _ _ _ _ _ _ us hl => match us, hl with | [_, _], _ => rfl
  have b14 := F14.binds (ps := ["self"]) fun _ _ _ _ _ _ us hl => match us, hl with | [_], _ => rfl
  have b15 := F15.binds (ps := ["self"]) fun _ _ _ _ _ _ us hl => match us, hl with | [_], _ => rfl
  have b16 := F16.binds (ps := ["self"]) fun _ _ _ _ _ _ us hl => match us, hl with | [_], _ => rfl
  have b17 := F17.binds (ps := ["self", "houses"]) fun _ _ _ _ _ _ us hl => match us, hl with | [_, _], _ => rfl
  have b18 := F18.binds (ps := ["self"]) fun _ _ _ _ _ _ us hl => match us, hl with | [_], _ => rfl
  have b19 := F19.binds (ps := ["self", "other"]) fun _ _ _ _ _ _ us hl => match us, hl with | [_, _], _ => rfl
  have b20 := F20.binds (ps := ["houses"]) fun _ _ _ _ _ _ us hl => match us, hl with | [_], _ => rfl
  have b21 := F21.binds (ps := ["shape", "houses"]) fun _ _ _ _ _ _ us hl => match us, hl with | [_, _], _ => rfl
  have b22 := F22.binds (ps := ["tree"]) fun _ _ _ _ _ _ us hl => match us, hl with | [_], _ => rfl
  have b23 := F23.binds (ps := ["shape"]) fun _ _ _ _ _ _ us hl => match us, hl with | [_], _ => rfl
  have b24 := F24.binds (ps := ["tree"]) fun _ _ _ _ _ _ us hl => match us, hl with | [_], _ => rfl
  have b25 := F25.binds (ps := ["one", "other"]) fun _ _ _ _ _ _ us hl => match us, hl with | [_, _], _ => rfl
  have b26 := F26.binds (ps := ["lists"]) fun _ _ _ _ _ _ us hl => match us, hl with | [_], _ => rfl
  have b27 := F27.binds (ps := ["shape"]) fun _ _ _ _ _ _ us hl => match us, hl with | [_], _ => rfl
  have b28 := F28.binds (ps := ["tree"]) fun _ _ _ _ _ _ us hl => match us, hl with | [_], _ => rfl
  have b29 := F29.binds (ps := ["choices", "need"]) fun _ _ _ _ _ _ us hl => match us, hl with | [_, _], _ => rfl
  have b30 := F30.binds (ps := ["shape"]) fun _ _ _ _ _ _ us hl => match us, hl with | [_], _ => rfl
  have b31 := F31.binds (ps := ["tree", "what", "limit"]) fun _ _ _ _ _ _ us hl => match us, hl with | [_, _, _], _ => rfl
  have b32 := F32.binds (ps := ["tree"]) fun _ _ _ _ _ _ us hl => match us, hl with | [_], _ => rfl
  have b33 := F33.binds (ps := ["tree"]) fun _ _ _ _ _ _ us hl => match us, hl with | [_], _ => rfl
  have b34 := F34.binds (ps := ["tree", "value"]) fun _ _ _ _ _ _ us hl => match us, hl with | [_, _], _ => rfl
  have b35 := F35.binds (ps := ["tree", "value"]) fun _ _ _ _ _ _ us hl => match us, hl with | [_, _], _ => rfl
  have b36 := F36.binds (ps := ["tree", "houses"]) fun _ _ _ _ _ _ us hl => match us, hl with | [_, _], _ => rfl
  have b37 := F37.binds (ps := ["tree", "houses"]) fun _ _ _ _ _ _ us hl => match us, hl with | [_, _], _ => rfl
  have b38 := F38.binds (ps := ["_law_script", "_law_k"]) fun _ _ _ _ _ _ us hl => match us, hl with | [_, _], _ => rfl
  have b39 := F39.binds (ps := ["_law_pot_here", "_law_many"]) fun _ _ _ _ _ _ us hl => match us, hl with | [_, _], _ => rfl
  have b40 := F40.binds (ps := ["_law_pot_here", "_law_menu"]) fun _ _ _ _ _ _ us hl => match us, hl with | [_, _], _ => rfl
  have b41 := F41.binds (ps := ["_law_pot_here", "_law_some"]) fun _ _ _ _ _ _ us hl => match us, hl with | [_, _], _ => rfl
  have b42 := F42.binds (ps := ["_law_pot_here", "_law_many"]) fun _ _ _ _ _ _ us hl => match us, hl with | [_, _], _ => rfl
  have b43 := F43.binds (ps := ["_law_pot_here", "_law_tags"]) fun _ _ _ _ _ _ us hl => match us, hl with | [_, _], _ => rfl
  have b44 := F44.binds (ps := ["_law_pot_here", "_law_tags", "_law_deep"]) fun _ _ _ _ _ _ us hl => match us, hl with | [_, _, _], _ => rfl
  have b45 := F45.binds (ps := ["_law_pot_here", "_law_tags", "_law_deep"]) fun _ _ _ _ _ _ us hl => match us, hl with | [_, _, _], _ => rfl
  have b46 := F46.binds (ps := ["_law_pot_here", "_law_most"]) fun _ _ _ _ _ _ us hl => match us, hl with | [_, _], _ => rfl
  have b47 := F47.binds (ps := ["_law_sketch"]) fun _ _ _ _ _ _ us hl => match us, hl with | [_], _ => rfl
  have b48 := F48.binds (ps := ["_law_sketch"]) fun _ _ _ _ _ _ us hl => match us, hl with | [_], _ => rfl
  have b49 := F49.binds (ps := ["_law_sketch", "_law_some"]) fun _ _ _ _ _ _ us hl => match us, hl with | [_, _], _ => rfl
  have b50 := F50.binds (ps := ["_law_sketch"]) fun _ _ _ _ _ _ us hl => match us, hl with | [_], _ => rfl
  have b51 := F51.binds (ps := ["_law_some"]) fun _ _ _ _ _ _ us hl => match us, hl with | [_], _ => rfl
  have b52 := F52.binds (ps := ["_law_sketch"]) fun _ _ _ _ _ _ us hl => match us, hl with | [_], _ => rfl
  have b53 := F53.binds (ps := ["_law_sketch"]) fun _ _ _ _ _ _ us hl => match us, hl with | [_], _ => rfl
  have b54 := F54.binds (ps := ["_law_here", "_law_there"]) fun _ _ _ _ _ _ us hl => match us, hl with | [_, _], _ => rfl
  have b55 := F55.binds (ps := ["_law_plant", "_law_sketch", "_law_tags", "_law_near", "_law_far"]) fun _ _ _ _ _ _ us hl => match us, hl with | [_, _, _, _, _], _ => rfl
  have b56 := F56.binds (ps := ["_law_pot_here", "_law_plant", "_law_tags", "_law_near", "_law_far"]) fun _ _ _ _ _ _ us hl => match us, hl with | [_, _, _, _, _], _ => rfl
  have b57 := F57.binds (ps := ["_law_rows_now", "_law_some", "_law_told"]) fun _ _ _ _ _ _ us hl => match us, hl with | [_, _, _], _ => rfl
  have b58 := F58.binds (ps := ["_law_plant", "_law_sketch", "_law_tags", "_law_near", "_law_far"]) fun _ _ _ _ _ _ us hl => match us, hl with | [_, _, _, _, _], _ => rfl
  have b59 := F59.binds (ps := ["_law_pot_here"]) fun _ _ _ _ _ _ us hl => match us, hl with | [_], _ => rfl
  have b60 := F60.binds (ps := ["_law_script"]) fun _ _ _ _ _ _ us hl => match us, hl with | [_], _ => rfl
  let fa_ : Nat → Addr := fun i => [f0, f1, f2, f3, f4, f5, f6, f7, f8, f9, f10, f11, f12, f13, f14, f15, f16, f17, f18, f19, f20, f21, f22, f23, f24, f25, f26, f27, f28, f29, f30, f31, f32, f33, f34, f35, f36, f37, f38, f39, f40, f41, f42, f43, f44, f45, f46, f47, f48, f49, f50, f51, f52, f53, f54, f55, f56, f57, f58, f59, f60].getD i 0
  let fd_ : Nat → FuncData := fun i => [(PySem.W.fnOf "is_integer" "is_integer" (defArgs is_integer_s) (defBody is_integer_s) (defScope is_integer_s) .none kV0 dc0 pm0 an0 cd0 ct0),
    (PySem.W.fnOf "is_count" "is_count" (defArgs is_count_s) (defBody is_count_s) (defScope is_count_s) .none kV1 dc1 pm1 an1 cd1 ct1),
    (PySem.W.fnOf "is_list" "is_list" (defArgs is_list_s) (defBody is_list_s) (defScope is_list_s) .none kV2 dc2 pm2 an2 cd2 ct2),
    (PySem.W.fnOf "is_number_below" "is_number_below" (defArgs is_number_below_s) (defBody is_number_below_s) (defScope is_number_below_s) .none kV3 dc3 pm3 an3 cd3 ct3),
    (PySem.W.fnOf "is_gate" "is_gate" (defArgs is_gate_s) (defBody is_gate_s) (defScope is_gate_s) .none kV4 dc4 pm4 an4 cd4 ct4),
    (PySem.W.fnOf "is_tree" "is_tree" (defArgs is_tree_s) (defBody is_tree_s) (defScope is_tree_s) .none kV5 dc5 pm5 an5 cd5 ct5),
    (PySem.W.fnOf "firm" "firm" (defArgs firm_s) (defBody firm_s) (defScope firm_s) .none kV6 dc6 pm6 an6 cd6 ct6),
    (PySem.W.fnOf "listed" "listed" (defArgs listed_s) (defBody listed_s) (defScope listed_s) .none kV7 dc7 pm7 an7 cd7 ct7),
    (PySem.W.fnOf "leaves" "leaves" (defArgs leaves_s) (defBody leaves_s) (defScope leaves_s) .none kV8 dc8 pm8 an8 cd8 ct8),
    (PySem.W.fnOf "depth" "depth" (defArgs depth_s) (defBody depth_s) (defScope depth_s) .none kV9 dc9 pm9 an9 cd9 ct9),
    (PySem.W.fnOf "contrary" "contrary" (defArgs contrary_s) (defBody contrary_s) (defScope contrary_s) .none kV10 dc10 pm10 an10 cd10 ct10),
    (PySem.W.fnOf "stands_in" "stands_in" (defArgs stands_in_s) (defBody stands_in_s) (defScope stands_in_s) .none kV11 dc11 pm11 an11 cd11 ct11),
    (PySem.W.fnOf "are_houses" "are_houses" (defArgs are_houses_s) (defBody are_houses_s) (defScope are_houses_s) .none kV12 dc12 pm12 an12 cd12 ct12),
    (PySem.W.fnOf "__init__" "Tree.__init__" (defArgs Tree_init_s) (defBody Tree_init_s) (defScope Tree_init_s) .none kV13 dc13 pm13 an13 cd13 ct13),
    (PySem.W.fnOf "shape" "Tree.shape" (defArgs Tree_shape_s) (defBody Tree_shape_s) (defScope Tree_shape_s) .none kV14 dc14 pm14 an14 cd14 ct14),
    (PySem.W.fnOf "is_plain" "Tree.is_plain" (defArgs Tree_is_plain_s) (defBody Tree_is_plain_s) (defScope Tree_is_plain_s) .none kV15 dc15 pm15 an15 cd15 ct15),
    (PySem.W.fnOf "members" "Tree.members" (defArgs Tree_members_s) (defBody Tree_members_s) (defScope Tree_members_s) .none kV16 dc16 pm16 an16 cd16 ct16),
    (PySem.W.fnOf "stands" "Tree.stands" (defArgs Tree_stands_s) (defBody Tree_stands_s) (defScope Tree_stands_s) .none kV17 dc17 pm17 an17 cd17 ct17),
    (PySem.W.fnOf "__invert__" "Tree.__invert__" (defArgs Tree_invert_s) (defBody Tree_invert_s) (defScope Tree_invert_s) .none kV18 dc18 pm18 an18 cd18 ct18),
    (PySem.W.fnOf "__eq__" "Tree.__eq__" (defArgs Tree_eq_s) (defBody Tree_eq_s) (defScope Tree_eq_s) .none kV19 dc19 pm19 an19 cd19 ct19),
    (PySem.W.fnOf "lists_of" "lists_of" (defArgs lists_of_s) (defBody lists_of_s) (defScope lists_of_s) .none kV20 dc20 pm20 an20 cd20 ct20),
    (PySem.W.fnOf "stands_barely" "stands_barely" (defArgs stands_barely_s) (defBody stands_barely_s) (defScope stands_barely_s) .none kV21 dc21 pm21 an21 cd21 ct21),
    (PySem.W.fnOf "mixed_meetings" "mixed_meetings" (defArgs mixed_meetings_s) (defBody mixed_meetings_s) (defScope mixed_meetings_s) .none kV22 dc22 pm22 an22 cd22 ct22),
    (PySem.W.fnOf "plain_count" "plain_count" (defArgs plain_count_s) (defBody plain_count_s) (defScope plain_count_s) .none kV23 dc23 pm23 an23 cd23 ct23),
    (PySem.W.fnOf "how_many" "how_many" (defArgs how_many_s) (defBody how_many_s) (defScope how_many_s) .none kV24 dc24 pm24 an24 cd24 ct24),
    (PySem.W.fnOf "product_of" "product_of" (defArgs product_of_s) (defBody product_of_s) (defScope product_of_s) .none kV25 dc25 pm25 an25 cd25 ct25),
    (PySem.W.fnOf "sum_of" "sum_of" (defArgs sum_of_s) (defBody sum_of_s) (defScope sum_of_s) .none kV26 dc26 pm26 an26 cd26 ct26),
    (PySem.W.fnOf "plain_sizes" "plain_sizes" (defArgs plain_sizes_s) (defBody plain_sizes_s) (defScope plain_sizes_s) .none kV27 dc27 pm27 an27 cd27 ct27),
    (PySem.W.fnOf "standing" "standing" (defArgs standing_s) (defBody standing_s) (defScope standing_s) .none kV28 dc28 pm28 an28 cd28 ct28),
    (PySem.W.fnOf "unions" "unions" (defArgs unions_s) (defBody unions_s) (defScope unions_s) .none kV29 dc29 pm29 an29 cd29 ct29),
    (PySem.W.fnOf "plain_meetings" "plain_meetings" (defArgs plain_meetings_s) (defBody plain_meetings_s) (defScope plain_meetings_s) .none kV30 dc30 pm30 an30 cd30 ct30),
    (PySem.W.fnOf "meetings_within" "meetings_within" (defArgs meetings_within_s) (defBody meetings_within_s) (defScope meetings_within_s) .none kV31 dc31 pm31 an31 cd31 ct31),
    (PySem.W.fnOf "meetings" "meetings" (defArgs meetings_s) (defBody meetings_s) (defScope meetings_s) .none kV32 dc32 pm32 an32 cd32 ct32),
    (PySem.W.fnOf "cuts" "cuts" (defArgs cuts_s) (defBody cuts_s) (defScope cuts_s) .none kV33 dc33 pm33 an33 cd33 ct33),
    (PySem.W.fnOf "is_meeting" "is_meeting" (defArgs is_meeting_s) (defBody is_meeting_s) (defScope is_meeting_s) .none kV34 dc34 pm34 an34 cd34 ct34),
    (PySem.W.fnOf "is_cut" "is_cut" (defArgs is_cut_s) (defBody is_cut_s) (defScope is_cut_s) .none kV35 dc35 pm35 an35 cd35 ct35),
    (PySem.W.fnOf "meeting_among" "meeting_among" (defArgs meeting_among_s) (defBody meeting_among_s) (defScope meeting_among_s) .none kV36 dc36 pm36 an36 cd36 ct36),
    (PySem.W.fnOf "cut_among" "cut_among" (defArgs cut_among_s) (defBody cut_among_s) (defScope cut_among_s) .none kV37 dc37 pm37 an37 cd37 ct37),
    (PySem.W.fnOf "_law_pot" "_law_pot" (defArgs _law_pot_s) (defBody _law_pot_s) (defScope _law_pot_s) .none kV38 dc38 pm38 an38 cd38 ct38),
    (PySem.W.fnOf "_law_draw" "_law_draw" (defArgs _law_draw_s) (defBody _law_draw_s) (defScope _law_draw_s) .none kV39 dc39 pm39 an39 cd39 ct39),
    (PySem.W.fnOf "_law_pick" "_law_pick" (defArgs _law_pick_s) (defBody _law_pick_s) (defScope _law_pick_s) .none kV40 dc40 pm40 an40 cd40 ct40),
    (PySem.W.fnOf "_law_mixed" "_law_mixed" (defArgs _law_mixed_s) (defBody _law_mixed_s) (defScope _law_mixed_s) .none kV41 dc41 pm41 an41 cd41 ct41),
    (PySem.W.fnOf "_law_names" "_law_names" (defArgs _law_names_s) (defBody _law_names_s) (defScope _law_names_s) .none kV42 dc42 pm42 an42 cd42 ct42),
    (PySem.W.fnOf "_law_parted" "_law_parted" (defArgs _law_parted_s) (defBody _law_parted_s) (defScope _law_parted_s) .none kV43 dc43 pm43 an43 cd43 ct43),
    (PySem.W.fnOf "_law_plain" "_law_plain" (defArgs _law_plain_s) (defBody _law_plain_s) (defScope _law_plain_s) .none kV44 dc44 pm44 an44 cd44 ct44),
    (PySem.W.fnOf "_law_any" "_law_any" (defArgs _law_any_s) (defBody _law_any_s) (defScope _law_any_s) .none kV45 dc45 pm45 an45 cd45 ct45),
    (PySem.W.fnOf "_law_shape" "_law_shape" (defArgs _law_shape_s) (defBody _law_shape_s) (defScope _law_shape_s) .none kV46 dc46 pm46 an46 cd46 ct46),
    (PySem.W.fnOf "_law_leaves" "_law_leaves" (defArgs _law_leaves_s) (defBody _law_leaves_s) (defScope _law_leaves_s) .none kV47 dc47 pm47 an47 cd47 ct47),
    (PySem.W.fnOf "_law_houses" "_law_houses" (defArgs _law_houses_s) (defBody _law_houses_s) (defScope _law_houses_s) .none kV48 dc48 pm48 an48 cd48 ct48),
    (PySem.W.fnOf "_law_stands" "_law_stands" (defArgs _law_stands_s) (defBody _law_stands_s) (defScope _law_stands_s) .none kV49 dc49 pm49 an49 cd49 ct49),
    (PySem.W.fnOf "_law_turned" "_law_turned" (defArgs _law_turned_s) (defBody _law_turned_s) (defScope _law_turned_s) .none kV50 dc50 pm50 an50 cd50 ct50),
    (PySem.W.fnOf "_law_lists" "_law_lists" (defArgs _law_lists_s) (defBody _law_lists_s) (defScope _law_lists_s) .none kV51 dc51 pm51 an51 cd51 ct51),
    (PySem.W.fnOf "_law_meetings" "_law_meetings" (defArgs _law_meetings_s) (defBody _law_meetings_s) (defScope _law_meetings_s) .none kV52 dc52 pm52 an52 cd52 ct52),
    (PySem.W.fnOf "_law_cuts" "_law_cuts" (defArgs _law_cuts_s) (defBody _law_cuts_s) (defScope _law_cuts_s) .none kV53 dc53 pm53 an53 cd53 ct53),
    (PySem.W.fnOf "_law_common" "_law_common" (defArgs _law_common_s) (defBody _law_common_s) (defScope _law_common_s) .none kV54 dc54 pm54 an54 cd54 ct54),
    (PySem.W.fnOf "_law_numbers_right" "_law_numbers_right" (defArgs _law_numbers_right_s) (defBody _law_numbers_right_s) (defScope _law_numbers_right_s) .none kV55 dc55 pm55 an55 cd55 ct55),
    (PySem.W.fnOf "_law_judged_right" "_law_judged_right" (defArgs _law_judged_right_s) (defBody _law_judged_right_s) (defScope _law_judged_right_s) .none kV56 dc56 pm56 an56 cd56 ct56),
    (PySem.W.fnOf "_law_is_in" "_law_is_in" (defArgs _law_is_in_s) (defBody _law_is_in_s) (defScope _law_is_in_s) .none kV57 dc57 pm57 an57 cd57 ct57),
    (PySem.W.fnOf "_law_among_right" "_law_among_right" (defArgs _law_among_right_s) (defBody _law_among_right_s) (defScope _law_among_right_s) .none kV58 dc58 pm58 an58 cd58 ct58),
    (PySem.W.fnOf "_law_right" "_law_right" (defArgs _law_right_s) (defBody _law_right_s) (defScope _law_right_s) .none kV59 dc59 pm59 an59 cd59 ct59),
    (PySem.W.fnOf "law" "law" (defArgs law_s) (defBody law_s) (defScope law_s) .none kV60 dc60 pm60 an60 cd60 ct60)].getD i (PySem.W.fnOf "law" "law" (defArgs law_s) (defBody law_s) (defScope law_s) .none kV60 dc60 pm60 an60 cd60 ct60)
  have T : Txt K mg fa_ fd_ C (fun i => [tk0, tk1, tk2, tk3, tk4, tk5].getD i tk0) := ⟨F0, PySem.W.mg_of X G a0, b0, F1, PySem.W.mg_of X G a1, b1, F2, PySem.W.mg_of X G a2, b2, F3, PySem.W.mg_of X G a3, b3, F4, PySem.W.mg_of X G a4, b4, F5, PySem.W.mg_of X G a5, b5, F6, PySem.W.mg_of X G a6, b6, F7, PySem.W.mg_of X G a7, b7, F8, PySem.W.mg_of X G a8, b8, F9, PySem.W.mg_of X G a9, b9, F10, PySem.W.mg_of X G a10, b10, F11, PySem.W.mg_of X G a11, b11, F12, PySem.W.mg_of X G a12, b12, F13, b13, F14, b14, F15, b15, F16, b16, F17, b17, F18, b18, F19, b19, F20, PySem.W.mg_of X G a20, b20, F21, PySem.W.mg_of X G a21, b21, F22, PySem.W.mg_of X G a22, b22, F23, PySem.W.mg_of X G a23, b23, F24, PySem.W.mg_of X G a24, b24, F25, PySem.W.mg_of X G a25, b25, F26, PySem.W.mg_of X G a26, b26, F27, PySem.W.mg_of X G a27, b27, F28, PySem.W.mg_of X G a28, b28, F29, PySem.W.mg_of X G a29, b29, F30, PySem.W.mg_of X G a30, b30, F31, PySem.W.mg_of X G a31, b31, F32, PySem.W.mg_of X G a32, b32, F33, PySem.W.mg_of X G a33, b33, F34, PySem.W.mg_of X G a34, b34, F35, PySem.W.mg_of X G a35, b35, F36, PySem.W.mg_of X G a36, b36, F37, PySem.W.mg_of X G a37, b37, F38, PySem.W.mg_of X G a38, b38, F39, PySem.W.mg_of X G a39, b39, F40, PySem.W.mg_of X G a40, b40, F41, PySem.W.mg_of X G a41, b41, F42, PySem.W.mg_of X G a42, b42, F43, PySem.W.mg_of X G a43, b43, F44, PySem.W.mg_of X G a44, b44, F45, PySem.W.mg_of X G a45, b45, F46, PySem.W.mg_of X G a46, b46, F47, PySem.W.mg_of X G a47, b47, F48, PySem.W.mg_of X G a48, b48, F49, PySem.W.mg_of X G a49, b49, F50, PySem.W.mg_of X G a50, b50, F51, PySem.W.mg_of X G a51, b51, F52, PySem.W.mg_of X G a52, b52, F53, PySem.W.mg_of X G a53, b53, F54, PySem.W.mg_of X G a54, b54, F55, PySem.W.mg_of X G a55, b55, F56, PySem.W.mg_of X G a56, b56, F57, PySem.W.mg_of X G a57, b57, F58, PySem.W.mg_of X G a58, b58, F59, PySem.W.mg_of X G a59, b59, F60, PySem.W.mg_of X G a60, b60, PySem.W.mg_of X G vHOUSES, PySem.W.mg_of X G vMOST_LEAVES, PySem.W.mg_of X G vMOST_DEPTH, PySem.W.mg_of X G vMOST_MIXED, PySem.W.mg_of X G vMOST_MEETINGS, PySem.W.mg_of X G vMOST_CUTS, PySem.W.mg_none_of X G zisinstance, PySem.W.mg_none_of X G zint, PySem.W.mg_none_of X G zbool, PySem.W.mg_none_of X G zlist, PySem.W.mg_none_of X G ztuple, PySem.W.mg_none_of X G zlen, PySem.W.mg_none_of X G zstr, PySem.W.mg_none_of X G zmax, PySem.W.mg_none_of X G zall, PySem.W.mg_none_of X G zrange, PySem.W.mg_none_of X G zproperty, PySem.W.mg_none_of X G zany, PySem.W.mg_none_of X G zsorted, PySem.W.mg_none_of X G zzip, PySem.W.mg_none_of X G zenumerate, PySem.W.mg_none_of X G zsum, PySem.W.mg_none_of X G zabs, PySem.W.mg_none_of X G zdivmod, PySem.W.mg_none_of X G zmin, PySem.W.mg_none_of X G zset, PySem.W.mg_none_of X G zrepr, PySem.W.mg_none_of X G zdict⟩
  have U : TxC K mg fa_ C := ⟨⟨pg, hd, po, sa⟩, n1, n2, n3, ⟨mk, a13, i13, kc⟩, PySem.W.mg_of X G aC, ⟨a16, i16, k16⟩, ⟨a17, i17, k17⟩, ⟨p14, a14, g14, t14, _, r14⟩, ⟨p15, a15, g15, t15, _, r15⟩, ⟨a18, i18, k18⟩, ⟨a19, i19, k19⟩⟩
  have D : TxD K C := ⟨dha, dhn, dht, dhm, dow, (fun n hn => by
    rcases List.mem_cons.mp hn with rfl | hn
    · exact oNoneType
    rcases List.mem_cons.mp hn with rfl | hn
    · exact obool
    rcases List.mem_cons.mp hn with rfl | hn
    · exact oint
    rcases List.mem_cons.mp hn with rfl | hn
    · exact ostr
    rcases List.mem_cons.mp hn with rfl | hn
    · exact olist
    rcases List.mem_cons.mp hn with rfl | hn
    · exact otuple
    cases hn),
    (fun n hn => by
    rcases List.mem_cons.mp hn with rfl | hn
    · exact qNoneType
    rcases List.mem_cons.mp hn with rfl | hn
    · exact qbool
    rcases List.mem_cons.mp hn with rfl | hn
    · exact qint
    rcases List.mem_cons.mp hn with rfl | hn
    · exact qstr
    rcases List.mem_cons.mp hn with rfl | hn
    · exact qlist
    rcases List.mem_cons.mp hn with rfl | hn
    · exact qtuple
    cases hn), dsf, dne, dob⟩
  have w24 : kw1 K (fd_ 24) "tree" := kbn_of fun us ws h1 h2 => match us, ws, h1, h2 with | [], [_], _, _ => rfl
  have w28 : kw1 K (fd_ 28) "tree" := kbn_of fun us ws h1 h2 => match us, ws, h1, h2 with | [], [_], _, _ => rfl
  have w32 : kw1 K (fd_ 32) "tree" := kbn_of fun us ws h1 h2 => match us, ws, h1, h2 with | [], [_], _, _ => rfl
  have w33 : kw1 K (fd_ 33) "tree" := kbn_of fun us ws h1 h2 => match us, ws, h1, h2 with | [], [_], _, _ => rfl
  have w34 : kwR K (fd_ 34) "tree" "value" := ⟨fun s us ws _ h1 h2 => .of_eq (match us, ws, h1, h2 with | [], [_, _], _, _ => rfl), fun r1 r2 => r1.append (vals_rev r2)⟩
  have w35 : kwR K (fd_ 35) "tree" "value" := ⟨fun s us ws _ h1 h2 => .of_eq (match us, ws, h1, h2 with | [], [_, _], _, _ => rfl), fun r1 r2 => r1.append (vals_rev r2)⟩
  have w36 : kwR K (fd_ 36) "tree" "houses" := ⟨fun s us ws _ h1 h2 => .of_eq (match us, ws, h1, h2 with | [], [_, _], _, _ => rfl), fun r1 r2 => r1.append (vals_rev r2)⟩
  exact ⟨fd_ 60, fun s v => .of_eq rfl, fun base _ _ => ok_law T U D w24 w28 w32 w33 w34 w35 w36⟩
end K31

set_option maxRecDepth 100000
namespace K31
open PySem PySem.Spec PyProof.Rows L2 Kh
def allTy (l : List Value) : Bool := l.all fun v => match v with
  | .type _ => true
  | _ => false
theorem allTy_not {l : List Value} {C : Addr} (h : allTy l = true) : l.contains (.ref C) = false := by
  induction l with
  | nil => rfl
  | cons v l ih =>
    unfold allTy at h
    rw [List.all_cons, Bool.and_eq_true] at h
    have e : (Value.ref C == v) = false := by
      cases v with
      | type _ => rfl
      | _ => exact absurd h.1 (by simp)
    rw [List.contains_cons, e, Bool.false_or]
    exact ih h.2
theorem kit_oth {K : PySem.W.Frag} {C : Addr} {n : String} {u} (ci : PySem.W.clsIn K C = some u) (ty : PySem.W.typeIn K (.ref C) = some (.type "type")) (h : ((fastBuiltinMro n).map allTy) = some true) : PySem.W.kitOne K (.type n) (.ref C) = some false := by
  unfold PySem.W.kitOne
  rw [if_neg (by show ¬ ((Value.type n == Value.ref C) = true); exact fun z => nomatch z)]
  show (if ((PySem.W.clsIn K C).isSome && PySem.W.typeIn K (.ref C) == some (.type "type")) = true then PySem.W.subIn K (.type n) (.ref C) else none) = some false
  rw [ci, ty, if_pos (by simp)]
  show (fastBuiltinMro n).map (·.contains (.ref C)) = some false
  cases e : fastBuiltinMro n with
  | none => rw [e] at h; cases h
  | some l => rw [e] at h; exact congrArg some (allTy_not (Option.some.inj h))
theorem mro6 : ∀ n ∈ ["NoneType", "bool", "int", "str", "list", "tuple"], ((fastBuiltinMro n).map allTy) = some true := by decide +kernel
end K31

set_option maxRecDepth 100000
namespace K31
open PySem PySem.Spec PyProof.Rows L2 Kh
theorem walk {l : PySem.W.OpenLaw} {q : Program} {loose : List Str} {XP : (Str → Option Value) → Heap → Prop} {YP : World → Heap → Prop} {d : DefRec} {K : Params → PySem.W.Frag} (m1 : l.most = some 63) (m2 : d.params.defaults = [])
    (m3 : ∀ (w : World) (h : Heap), YP w h → (K w.params).In h)
    (Fl : ∀ (w : World) (mg : Str → Option Value) (fa : Addr) (h : Heap), (K w.params).In h → h.Ns mainGlobals mg → mg d.name = some (.ref fa) → ∃ fd : FuncData, (∀ (s : Shared) (u : Value), BindsTo s fd ⟨[u], []⟩ [("_law_script", u)]) ∧ ∀ base : Heap, (K w.params).In base → base.Ns mainGlobals mg → FnG l.prog w (K w.params) mg base 41 fa fd ["_law_script"] (spLaw (K w.params))) :
    PySem.W.WalkO q loose XP YP l.row.toRowW d [] (fun f vs => PySem.call f vs) :=
  walk_g (n := 63) (k := 41) (x := "_law_script") (sp := fun w => spLaw (K w.params)) m1 (by decide) m2 ⟨rfl, by decide, by decide⟩ m3 Fl fun _ _ a ns hl hS => ⟨a, ns, rfl, hS, Nat.le_trans hl (by decide), fun _ => rfl⟩
end K31

open PySem PySem.W PyProof.Rows in
set_option maxRecDepth 100000 in
set_option maxHeartbeats 0 in
theorem PySem.Challenge.cw_oneshelf_k32_whole_meetings_and_cuts_holds : PySem.Challenge.rw_oneshelf_k32_whole_meetings_and_cuts.Holds := by
  w_on; o_law; k_head; (case hw => w_witness2)
  k_fill
  refine K31.walk (l := PySem.Challenge.rw_oneshelf_k32_whole_meetings_and_cuts) rfl rfl (fun w h Y => PySem.W.kIn_of Y) ?F
  case F =>
    intro w mg fa h KX G hmg
    refine' K31.all_mk KX G hmg ?a0 ?l0 ?c0 ?k0 ?a1 ?l1 ?c1 ?k1 ?a2 ?l2 ?c2 ?k2 ?a3 ?l3 ?c3 ?k3 ?a4 ?l4 ?c4 ?k4 ?a5 ?l5 ?c5 ?k5 ?a6 ?l6 ?c6 ?k6 ?a7 ?l7 ?c7 ?k7 ?a8 ?l8 ?c8 ?k8 ?a9 ?l9 ?c9 ?k9 ?a10 ?l10 ?c10 ?k10 ?a11 ?l11 ?c11 ?k11 ?a12 ?l12 ?c12 ?k12 ?a13 ?i13 ?l13 ?c13 ?k13 ?a14 ?g14 ?t14 ?r14 ?l14 ?c14 ?k14 ?a15 ?g15 ?t15 ?r15 ?l15 ?c15 ?k15 ?a16 ?i16 ?l16 ?c16 ?k16 ?a17 ?i17 ?l17 ?c17 ?k17 ?a18 ?i18 ?l18 ?c18 ?k18 ?a19 ?i19 ?l19 ?c19 ?k19 ?a20 ?l20 ?c20 ?k20 ?a21 ?l21 ?c21 ?k21 ?a22 ?l22 ?c22 ?k22 ?a23 ?l23 ?c23 ?k23 ?a24 ?l24 ?c24 ?k24 ?a25 ?l25 ?c25 ?k25 ?a26 ?l26 ?c26 ?k26 ?a27 ?l27 ?c27 ?k27 ?a28 ?l28 ?c28 ?k28 ?a29 ?l29 ?c29 ?k29 ?a30 ?l30 ?c30 ?k30 ?a31 ?l31 ?c31 ?k31 ?a32 ?l32 ?c32 ?k32 ?a33 ?l33 ?c33 ?k33 ?a34 ?l34 ?c34 ?k34 ?a35 ?l35 ?c35 ?k35 ?a36 ?l36 ?c36 ?k36 ?a37 ?l37 ?c37 ?k37 ?a38 ?l38 ?c38 ?k38 ?a39 ?l39 ?c39 ?k39 ?a40 ?l40 ?c40 ?k40 ?a41 ?l41 ?c41 ?k41 ?a42 ?l42 ?c42 ?k42 ?a43 ?l43 ?c43 ?k43 ?a44 ?l44 ?c44 ?k44 ?a45 ?l45 ?c45 ?k45 ?a46 ?l46 ?c46 ?k46 ?a47 ?l47 ?c47 ?k47 ?a48 ?l48 ?c48 ?k48 ?a49 ?l49 ?c49 ?k49 ?a50 ?l50 ?c50 ?k50 ?a51 ?l51 ?c51 ?k51 ?a52 ?l52 ?c52 ?k52 ?a53 ?l53 ?c53 ?k53 ?a54 ?l54 ?c54 ?k54 ?a55 ?l55 ?c55 ?k55 ?a56 ?l56 ?c56 ?k56 ?a57 ?l57 ?c57 ?k57 ?a58 ?l58 ?c58 ?k58 ?a59 ?l59 ?c59 ?k59 ?a60 ?l60 ?c60 ?k60 ?aC ?pg ?hd ?po ?sa ?mk ?kc ?n1 ?n2 ?n3 ?dha ?dhn ?dht ?dhm ?dow ?dsf ?dne ?dob ?oNoneType ?qNoneType ?obool ?qbool ?oint ?qint ?ostr ?qstr ?olist ?qlist ?otuple ?qtuple ?vHOUSES ?vMOST_LEAVES ?vMOST_DEPTH ?vMOST_MIXED ?vMOST_MEETINGS ?vMOST_CUTS ?zisinstance ?zint ?zbool ?zlist ?ztuple ?zlen ?zstr ?zmax ?zall ?zrange ?zproperty ?zany ?zsorted ?zzip ?zenumerate ?zsum ?zabs ?zdivmod ?zmin ?zset ?zrepr ?zdict
    (case aC => k_is)
    (case a0 => k_is)
    (case l0 => k_is)
    (case c0 => k_is)
    (case k0 => k_is)
    (case a1 => k_is)
    (case l1 => k_is)
    (case c1 => k_is)
    (case k1 => k_is)
    (case a2 => k_is)
    (case l2 => k_is)
    (case c2 => k_is)
    (case k2 => k_is)
    (case a3 => k_is)
    (case l3 => k_is)
    (case c3 => k_is)
    (case k3 => k_is)
    (case a4 => k_is)
    (case l4 => k_is)
    (case c4 => k_is)
    (case k4 => k_is)
    (case a5 => k_is)
    (case l5 => k_is)
    (case c5 => k_is)
    (case k5 => k_is)
    (case a6 => k_is)
    (case l6 => k_is)
    (case c6 => k_is)
    (case k6 => k_is)
    (case a7 => k_is)
    (case l7 => k_is)
    (case c7 => k_is)
    (case k7 => k_is)
    (case a8 => k_is)
    (case l8 => k_is)
    (case c8 => k_is)
    (case k8 => k_is)
    (case a9 => k_is)
    (case l9 => k_is)
    (case c9 => k_is)
    (case k9 => k_is)
    (case a10 => k_is)
    (case l10 => k_is)
    (case c10 => k_is)
    (case k10 => k_is)
    (case a11 => k_is)
    (case l11 => k_is)
    (case c11 => k_is)
    (case k11 => k_is)
    (case a12 => k_is)
    (case l12 => k_is)
    (case c12 => k_is)
    (case k12 => k_is)
    (case a13 => k_is)
    (case i13 => k_is)
    (case l13 => k_is)
    (case c13 => k_is)
    (case k13 => k_is)
    (case a14 => k_is)
    (case g14 => k_is)
    (case t14 => k_is)
    (case r14 => k_is)
    (case l14 => k_is)
    (case c14 => k_is)
    (case k14 => k_is)
    (case a15 => k_is)
    (case g15 => k_is)
    (case t15 => k_is)
    (case r15 => k_is)
    (case l15 => k_is)
    (case c15 => k_is)
    (case k15 => k_is)
    (case a16 => k_is)
    (case i16 => k_is)
    (case l16 => k_is)
    (case c16 => k_is)
    (case k16 => k_is)
    (case a17 => k_is)
    (case i17 => k_is)
    (case l17 => k_is)
    (case c17 => k_is)
    (case k17 => k_is)
    (case a18 => k_is)
    (case i18 => k_is)
    (case l18 => k_is)
    (case c18 => k_is)
    (case k18 => k_is)
    (case a19 => k_is)
    (case i19 => k_is)
    (case l19 => k_is)
    (case c19 => k_is)
    (case k19 => k_is)
    (case a20 => k_is)
    (case l20 => k_is)
    (case c20 => k_is)
    (case k20 => k_is)
    (case a21 => k_is)
    (case l21 => k_is)
    (case c21 => k_is)
    (case k21 => k_is)
    (case a22 => k_is)
    (case l22 => k_is)
    (case c22 => k_is)
    (case k22 => k_is)
    (case a23 => k_is)
    (case l23 => k_is)
    (case c23 => k_is)
    (case k23 => k_is)
    (case a24 => k_is)
    (case l24 => k_is)
    (case c24 => k_is)
    (case k24 => k_is)
    (case a25 => k_is)
    (case l25 => k_is)
    (case c25 => k_is)
    (case k25 => k_is)
    (case a26 => k_is)
    (case l26 => k_is)
    (case c26 => k_is)
    (case k26 => k_is)
    (case a27 => k_is)
    (case l27 => k_is)
    (case c27 => k_is)
    (case k27 => k_is)
    (case a28 => k_is)
    (case l28 => k_is)
    (case c28 => k_is)
    (case k28 => k_is)
    (case a29 => k_is)
    (case l29 => k_is)
    (case c29 => k_is)
    (case k29 => k_is)
    (case a30 => k_is)
    (case l30 => k_is)
    (case c30 => k_is)
    (case k30 => k_is)
    (case a31 => k_is)
    (case l31 => k_is)
    (case c31 => k_is)
    (case k31 => k_is)
    (case a32 => k_is)
    (case l32 => k_is)
    (case c32 => k_is)
    (case k32 => k_is)
    (case a33 => k_is)
    (case l33 => k_is)
    (case c33 => k_is)
    (case k33 => k_is)
    (case a34 => k_is)
    (case l34 => k_is)
    (case c34 => k_is)
    (case k34 => k_is)
    (case a35 => k_is)
    (case l35 => k_is)
    (case c35 => k_is)
    (case k35 => k_is)
    (case a36 => k_is)
    (case l36 => k_is)
    (case c36 => k_is)
    (case k36 => k_is)
    (case a37 => k_is)
    (case l37 => k_is)
    (case c37 => k_is)
    (case k37 => k_is)
    (case a38 => k_is)
    (case l38 => k_is)
    (case c38 => k_is)
    (case k38 => k_is)
    (case a39 => k_is)
    (case l39 => k_is)
    (case c39 => k_is)
    (case k39 => k_is)
    (case a40 => k_is)
    (case l40 => k_is)
    (case c40 => k_is)
    (case k40 => k_is)
    (case a41 => k_is)
    (case l41 => k_is)
    (case c41 => k_is)
    (case k41 => k_is)
    (case a42 => k_is)
    (case l42 => k_is)
    (case c42 => k_is)
    (case k42 => k_is)
    (case a43 => k_is)
    (case l43 => k_is)
    (case c43 => k_is)
    (case k43 => k_is)
    (case a44 => k_is)
    (case l44 => k_is)
    (case c44 => k_is)
    (case k44 => k_is)
    (case a45 => k_is)
    (case l45 => k_is)
    (case c45 => k_is)
    (case k45 => k_is)
    (case a46 => k_is)
    (case l46 => k_is)
    (case c46 => k_is)
    (case k46 => k_is)
    (case a47 => k_is)
    (case l47 => k_is)
    (case c47 => k_is)
    (case k47 => k_is)
    (case a48 => k_is)
    (case l48 => k_is)
    (case c48 => k_is)
    (case k48 => k_is)
    (case a49 => k_is)
    (case l49 => k_is)
    (case c49 => k_is)
    (case k49 => k_is)
    (case a50 => k_is)
    (case l50 => k_is)
    (case c50 => k_is)
    (case k50 => k_is)
    (case a51 => k_is)
    (case l51 => k_is)
    (case c51 => k_is)
    (case k51 => k_is)
    (case a52 => k_is)
    (case l52 => k_is)
    (case c52 => k_is)
    (case k52 => k_is)
    (case a53 => k_is)
    (case l53 => k_is)
    (case c53 => k_is)
    (case k53 => k_is)
    (case a54 => k_is)
    (case l54 => k_is)
    (case c54 => k_is)
    (case k54 => k_is)
    (case a55 => k_is)
    (case l55 => k_is)
    (case c55 => k_is)
    (case k55 => k_is)
    (case a56 => k_is)
    (case l56 => k_is)
    (case c56 => k_is)
    (case k56 => k_is)
    (case a57 => k_is)
    (case l57 => k_is)
    (case c57 => k_is)
    (case k57 => k_is)
    (case a58 => k_is)
    (case l58 => k_is)
    (case c58 => k_is)
    (case k58 => k_is)
    (case a59 => k_is)
    (case l59 => k_is)
    (case c59 => k_is)
    (case k59 => k_is)
    (case a60 => k_is)
    (case l60 => k_is)
    (case c60 => k_is)
    (case k60 => k_is)
    (case pg => k_is)
    (case hd => k_is)
    (case po => k_is)
    (case sa => k_is)
    (case mk => k_is)
    (case kc => k_is)
    (case n1 => k_is)
    (case n2 => k_is)
    (case n3 => k_is)
    (case dha => k_is)
    (case dhn => k_is)
    (case dht => k_is)
    (case dhm => k_is)
    (case dow => exact if_pos (beq_self_eq_true _))
    (case dsf => k_is)
    (case dne => k_is)
    (case dob => k_is)
    (case oNoneType => (refine' K31.kit_oth ?ci ?ty ?m6; (case ci => k_is); (case ty => k_is); (case m6 => exact K31.mro6 _ (by simp))))
    (case qNoneType => k_is)
    (case obool => (refine' K31.kit_oth ?ci ?ty ?m6; (case ci => k_is); (case ty => k_is); (case m6 => exact K31.mro6 _ (by simp))))
    (case qbool => k_is)
    (case oint => (refine' K31.kit_oth ?ci ?ty ?m6; (case ci => k_is); (case ty => k_is); (case m6 => exact K31.mro6 _ (by simp))))
    (case qint => k_is)
    (case ostr => (refine' K31.kit_oth ?ci ?ty ?m6; (case ci => k_is); (case ty => k_is); (case m6 => exact K31.mro6 _ (by simp))))
    (case qstr => k_is)
    (case olist => (refine' K31.kit_oth ?ci ?ty ?m6; (case ci => k_is); (case ty => k_is); (case m6 => exact K31.mro6 _ (by simp))))
    (case qlist => k_is)
    (case otuple => (refine' K31.kit_oth ?ci ?ty ?m6; (case ci => k_is); (case ty => k_is); (case m6 => exact K31.mro6 _ (by simp))))
    (case qtuple => k_is)
    (case vHOUSES => k_is)
    (case vMOST_LEAVES => k_is)
    (case vMOST_DEPTH => k_is)
    (case vMOST_MIXED => k_is)
    (case vMOST_MEETINGS => k_is)
    (case vMOST_CUTS => k_is)
    (case zisinstance => k_is)
    (case zint => k_is)
    (case zbool => k_is)
    (case zlist => k_is)
    (case ztuple => k_is)
    (case zlen => k_is)
    (case zstr => k_is)
    (case zmax => k_is)
    (case zall => k_is)
    (case zrange => k_is)
    (case zproperty => k_is)
    (case zany => k_is)
    (case zsorted => k_is)
    (case zzip => k_is)
    (case zenumerate => k_is)
    (case zsum => k_is)
    (case zabs => k_is)
    (case zdivmod => k_is)
    (case zmin => k_is)
    (case zset => k_is)
    (case zrepr => k_is)
    (case zdict => k_is)

