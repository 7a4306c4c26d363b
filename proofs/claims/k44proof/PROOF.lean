import PyProof.Rows.All
import Wide.All
import OpenK.AllK
import Wide.FinOn
import HandS.ForMost
import HandS.IsInst
import HandS.Walk
import PyProof.AutoSeq1
import HandS.DictComp
import HandS.Property
import HandS.OwnEq
import HandS.MakeKwOnly
import HandS.ClsMeth
import HandS.Star
import PyProof.InstNe
import HandS.FStr
import HandS.Small
import PyProof.ReprRoads
import PyProof.ReprLen
import PyProof.EqLayable
import HandS.SetFor
import HandS.Strs
import HandS.SortOrd
import HandS.Zip
import KE.SortData
import HandS.WideBits
import HandS.RaiseMore
import HandS.Deep
import HandS.Conv
import HandS.Style
import HandS.TryOnly
import KE.GoesEnum
import PyProof.ZipIter
import KE.KStar
import HandS.ListItems
import KE.DataMinMax
import HandS.Flow
import HandS.Ends
import PySem.Challenge.RW_oneshelf_k44_whole_thresholds_and_shower
set_option Elab.async false
set_option linter.all false
set_option maxRecDepth 100000
/-! data in the abstract heap, apart from a set of addresses that are still worked on -/
namespace Kh
open PySem PySem.Spec PyProof.Rows L2

/-! ### heaps -/
theorem same_new {H : Hp} {p : Addr} {o : HO} (h : H p = none) : Same H (upd H p o) := fun b x e => by
  rw [upd_ne (ne_of_none e h)]; exact e
theorem sup {H H1 : Hp} {p : Addr} {o : HO} (x : Same H H1) (h : H1 p = none) : Same H (upd H1 p o) := x.trans (same_new h)
/-- an object that H doesn't know may change -/
theorem smut {H H1 : Hp} {p : Addr} {o : HO} (x : Same H H1) (h : H p = none) : Same H (upd H1 p o) := fun b u e => by
  rw [upd_ne (ne_of_none e h)]; exact x b u e
theorem same_t {K : PySem.W.Frag} {H H' : Hp} {a : Addr} {xs : List V} (e : Same H H') (h : SqT K H a xs) : SqT K H' a xs := by
  rcases h with (h | ⟨o, h⟩) | h
  · exact .inl (.inl (e _ _ h))
  · exact .inl (.inr ⟨o, e _ _ h⟩)
  · exact .inr h
theorem some_ne {H : Hp} {a : Addr} {o : HO} (h : H a = some o) : H a ≠ none := by rw [h]; exact fun z => nomatch z
theorem same_ne {H H' : Hp} (e : Same H H') {a : Addr} (h : H a ≠ none) : H' a ≠ none := by
  cases q : H a with
  | none => exact (h q).elim
  | some o => rw [e a o q]; exact fun z => nomatch z
theorem sqL {K : PySem.W.Frag} {H : Hp} {a : Addr} {xs : List V} (h : H a = some (.lst xs)) : SqL K H a xs := .inl (.inl h)
theorem sqT {K : PySem.W.Frag} {H : Hp} {a : Addr} {xs : List V} (h : H a = some (.tup xs)) : SqT K H a xs := .inl (.inl h)

mutual
theorem dp_same {K : PySem.W.Frag} {H H' : Hp} (e : Same H H') : ∀ (d : PyData) (v : V), Dp K H v d → Dp K H' v d
  | .none, _, h => by cases h; exact .non
  | .bool b, _, h => by cases h; exact .bl b
  | .int i, _, h => by cases h; exact .int i
  | .str x, _, h => by cases h; exact .str x
  | .list ds, _, h => by
    cases h with
    | lst hs ha => exact .lst (e.seq hs) (dpa_same e ds _ ha)
  | .tuple ds, _, h => by
    cases h with
    | tup hs ha => exact .tup (same_t e hs) (dpa_same e ds _ ha)
  | .dict _, _, h => by cases h
theorem dpa_same {K : PySem.W.Frag} {H H' : Hp} (e : Same H H') : ∀ (ds : List PyData) (vs : List V), DpAll K H vs ds → DpAll K H' vs ds
  | [], _, h => by cases h; exact .nil
  | d :: ds, _, h => by
    cases h with
    | cons h1 h2 => exact .cons (dp_same e d _ h1) (dpa_same e ds _ h2)
end
theorem dpa_len {K : PySem.W.Frag} {H : Hp} : ∀ {vs : List V} {ds : List PyData}, DpAll K H vs ds → vs.length = ds.length
  | _, _, .nil => rfl
  | _, _, .cons _ t => by rw [List.length_cons, List.length_cons, dpa_len t]
theorem dpa_get {K : PySem.W.Frag} {H : Hp} : ∀ {vs : List V} {ds : List PyData} {i : Nat} {d : PyData}, DpAll K H vs ds → ds[i]? = some d → ∃ v, vs[i]? = some v ∧ Dp K H v d
  | _, _, _, _, .nil, e => by simp at e
  | _, _, 0, d, .cons (v := v) h _, e => by simp at e; subst e; exact ⟨v, by simp, h⟩
  | _, _, i + 1, d, .cons _ t, e => by
    obtain ⟨v, h1, h2⟩ := dpa_get (i := i) t (by simpa using e)
    exact ⟨v, by simpa using h1, h2⟩
theorem dpa_at {K : PySem.W.Frag} {H : Hp} : ∀ {vs : List V} {ds : List PyData} {i : Nat} {v : V}, DpAll K H vs ds → vs[i]? = some v → ∃ d, ds[i]? = some d ∧ Dp K H v d
  | _, _, _, _, .nil, e => by simp at e
  | _, _, 0, v, .cons (d := d) h _, e => by simp at e; subst e; exact ⟨d, by simp, h⟩
  | _, _, i + 1, v, .cons _ t, e => by
    obtain ⟨d, h1, h2⟩ := dpa_at (i := i) t (by simpa using e)
    exact ⟨d, by simpa using h1, h2⟩
theorem dpa_app {K : PySem.W.Frag} {H : Hp} : ∀ {vs ws : List V} {ds es : List PyData}, DpAll K H vs ds → DpAll K H ws es → DpAll K H (vs ++ ws) (ds ++ es)
  | _, _, _, _, .nil, t => t
  | _, _, _, _, .cons h s, t => .cons h (dpa_app s t)
theorem dpa_of {K : PySem.W.Frag} {H : Hp} : ∀ {vs : List V} {ds : List PyData}, vs.length = ds.length → (∀ (i : Nat) v d, vs[i]? = some v → ds[i]? = some d → Dp K H v d) → DpAll K H vs ds
  | [], [], _, _ => .nil
  | v :: vs, d :: ds, l, h => .cons (h 0 v d rfl rfl) (dpa_of (by simpa using l) fun i a b h1 h2 => h (i + 1) a b (by simpa using h1) (by simpa using h2))
  | [], _ :: _, l, _ => by simp at l
  | _ :: _, [], l, _ => by simp at l

/-! ### the heap without some addresses -/
open Classical in
noncomputable def off (S : Addr → Prop) (H : Hp) : Hp := fun a => if S a then none else H a
/-- all of S is known -/
def Kn (S : Addr → Prop) (H : Hp) : Prop := ∀ a, S a → H a ≠ none
theorem off_out {S : Addr → Prop} {H : Hp} {a : Addr} (h : ¬ S a) : off S H a = H a := by unfold off; rw [if_neg h]
theorem off_in {S : Addr → Prop} {H : Hp} {a : Addr} (h : S a) : off S H a = none := by unfold off; rw [if_pos h]
theorem off_some {S : Addr → Prop} {H : Hp} {a : Addr} {o : HO} (h : off S H a = some o) : ¬ S a ∧ H a = some o := by
  by_cases q : S a
  · rw [off_in q] at h; cases h
  · rw [off_out q] at h; exact ⟨q, h⟩
theorem off_sub {S : Addr → Prop} {H : Hp} : Same (off S H) H := fun _ _ e => (off_some e).2
theorem off_same {S : Addr → Prop} {H H' : Hp} (e : Same H H') : Same (off S H) (off S H') := fun a o h => by
  obtain ⟨n, h⟩ := off_some h
  rw [off_out n]; exact e a o h
theorem off_less {S S' : Addr → Prop} {H : Hp} (h : ∀ a, S a → S' a) : Same (off S' H) (off S H) := fun a o e => by
  obtain ⟨n, e⟩ := off_some e
  rw [off_out fun z => n (h a z)]; exact e
theorem off_mut {S : Addr → Prop} {H : Hp} {a : Addr} {o : HO} (h : S a) : off S (upd H a o) = off S H := by
  funext b
  by_cases q : S b
  · rw [off_in q, off_in q]
  · rw [off_out q, off_out q, upd_ne]; rintro rfl; exact q h
theorem Kn.same {S : Addr → Prop} {H H' : Hp} (k : Kn S H) (e : Same H H') : Kn S H' := fun a h => same_ne e (k a h)
theorem Kn.new {S : Addr → Prop} {H : Hp} (k : Kn S H) {a : Addr} (h : H a = none) : ¬ S a := fun z => k a z h
theorem Kn.upd {S : Addr → Prop} {H : Hp} (k : Kn S H) {a : Addr} {o : HO} : Kn S (upd H a o) := fun b h => by
  by_cases q : b = a
  · subst q; rw [upd_same]; exact fun z => nomatch z
  · rw [upd_ne q]; exact k b h
/-- one more -/
def plus (S : Addr → Prop) (a : Addr) : Addr → Prop := fun b => S b ∨ b = a
theorem Kn.plus {S : Addr → Prop} {H : Hp} (k : Kn S H) {a : Addr} (h : H a ≠ none) : Kn (plus S a) H := fun b z => by
  rcases z with z | rfl
  · exact k b z
  · exact h
def noS : Addr → Prop := fun _ => False
theorem kn_no {H : Hp} : Kn noS H := fun _ h => h.elim
theorem off_no {H : Hp} : off noS H = H := by funext a; exact off_out fun h => h.elim
end Kh

set_option maxRecDepth 100000
set_option maxHeartbeats 1000000
/-! comprehensions read as wholes; calls of defs that only make new things -/
namespace Kh
open PySem PySem.Spec PyProof.Rows L2

/-- either way of walking -/
theorem pi_or {X : Cx} {tg e : Expr} {w1 w2 : TI} (h1 : PI X tg e w1) (h2 : PI X tg e w2) : PI X tg e (fun σ H R => w1 σ H R ∨ w2 σ H R) :=
  ⟨fun pins s σ H R I h => h.elim (h1.run pins s σ H R I) (h2.run pins s σ H R I)⟩
theorem pe_alt {X : Cx} {e : Expr} {t u : TE} (h1 : PE X e t) (h2 : PE X e u) : PE X e (fun σ H Q => t σ H Q ∨ u σ H Q) :=
  ⟨fun pins s σ H Q I h => h.elim (h1.run pins s σ H Q I) (h2.run pins s σ H Q I)⟩
/-- a list or a tuple -/
theorem pi_any {X : Cx} {tg e : Expr} {t : TE} (h : PE X e t) : PI X tg e (fun σ H R => iList X.K t σ H R ∨ iTup X.K t σ H R) := pi_or (pi_list h) (pi_tup h)

/-- grown but for what stands at D -/
def SameBut (D : Addr) (H H' : Hp) : Prop := ∀ b o, b ≠ D → H b = some o → H' b = some o
theorem sbut {D : Addr} {H H' : Hp} (e : Same H H') : SameBut D H H' := fun b o _ h => e b o h
theorem bmut {D : Addr} {H H' : Hp} {o : HO} (e : SameBut D H H') : SameBut D H (upd H' D o) := fun b u n h => by rw [upd_ne n]; exact e b u n h
theorem off_but {S : Addr → Prop} {D : Addr} {H H' : Hp} (e : SameBut D H H') : Same (off (plus S D) H) (off (plus S D) H') := fun b o h => by
  obtain ⟨n, h⟩ := off_some h
  rw [off_out n]
  exact e b o (fun z => n (.inr z)) h

theorem paired_app {α β : Type} {F : α → β → Prop} : ∀ {l l2 : List α} {m m2 : List β}, Paired F l m → Paired F l2 m2 → Paired F (l ++ l2) (m ++ m2)
  | _, _, _, _, .nil, q => q
  | _, _, _, _, .cons r t, q => .cons r (paired_app t q)
section
variable {J : It} {n : Nat} {G : Hp → Prop} {Y : Nat → Hp → V → Hp → Prop} {te : TE} {tt : TT} {sl : Nat} {vs : List Nat} {σ : L2.St} {H1 : Hp} {D : Addr} {Qd : Hp → Prop}

theorem lc_filt (w : Walk J n G Y) (Xp : Nat → V → Prop) (hY : ∀ i H x H', i < n → Y i H x H' → H' = H ∧ Xp i x) (pt : Nat → Bool) (P : Nat → V → Hp → Prop)
    (hG : ∀ H, Same H1 H → G H) (hD : H1 D = none) (hn : n ≤ 100000) (hw : ∀ x, wipe ((wipe σ vs).set sl (some x)) vs = wipe σ vs)
    (hP : ∀ j y H H', SameBut D H H' → P j y H → P j y H')
    (test : ∀ j x H, j < n → Xp j x → Same H1 H → H D ≠ none → ∀ Q : Bool → Hp → Prop, (∀ H', Same H H' → Q (pt j) H') → tt ((wipe σ vs).set sl (some x)) H Q)
    (body : ∀ j x H, j < n → Xp j x → pt j = true → Same H1 H → H D ≠ none → ∀ Q : VK, (∀ y H', Same H H' → P j y H' → Q y H') → te ((wipe σ vs).set sl (some x)) H Q)
    (done : ∀ ys H, Paired (fun j y => P j y H) ((List.range n).filter pt) ys → Same H1 H → H D = some (.lst ys) → Qd H) :
    ∃ W : Nat → Nat → Hp → Prop, (∃ m, W 0 m (upd H1 D (.lst []))) ∧ ∀ i m H, W i m H →
      (J.stop i H ∧ Qd H) ∨ (J.go i H ∧ ∃ Nx : Hp → Prop, (∀ H', Nx H' → ∃ m', m' < m ∧ W (i + 1) m' H') ∧ ∀ x H', J.yld i H x H' → gName sl x (wipe σ vs) H' fun σ2 H2 => wipe σ2 vs = wipe σ vs ∧ tt σ2 H2 fun b H3 =>
        if b = true then te σ2 H3 fun y H4 => ∃ acc, H4 D = some (.lst acc) ∧ acc.length < sizeLine ∧ Nx (upd H4 D (.lst (acc ++ [y]))) else Nx H3) := by
  have mono : ∀ {l : List Nat} {ys : List V} {H H' : Hp}, SameBut D H H' → Paired (fun j y => P j y H) l ys → Paired (fun j y => P j y H') l ys := fun e p => Paired.mapP p fun a b q => hP a b _ _ e q
  have lenP : ∀ {l : List Nat} {ys : List V} {H : Hp}, Paired (fun j y => P j y H) l ys → l.length = ys.length := fun p => Paired.length p
  refine lc_it w (Pv := fun i H => ∃ ys, Paired (fun j y => P j y H) ((List.range i).filter pt) ys ∧ Same H1 H ∧ H D = some (.lst ys)) ⟨[], .nil, same_new hD, upd_same⟩ (fun i H _ ⟨_, _, s, _⟩ => hG H s) ?_ ?_
  · rintro i x H H' hi ⟨ys, py, s, hd⟩ y
    obtain ⟨rfl, xp⟩ := hY i H x H' hi y
    refine ⟨hw x, test i x H' hi xp s (some_ne hd) _ fun H2 s2 => ?_⟩
    have e : (List.range (i + 1)).filter pt = (List.range i).filter pt ++ (if pt i then [i] else []) := by
      rw [List.range_succ, List.filter_append]
      congr 1
      cases q : pt i <;> simp [q]
    cases hb : pt i with
    | true =>
      refine iteT (body i x H2 hi xp hb (s.trans s2) (some_ne (s2 _ _ hd)) _ fun z H3 s3 pz => ?_)
      have h3 := s3 _ _ (s2 _ _ hd)
      have hl : ys.length ≤ i := by
        rw [← lenP py]
        exact Nat.le_trans (List.length_filter_le _ _) (by simp)
      refine ⟨ys, h3, Nat.lt_of_le_of_lt (show ys.length ≤ 100000 by omega) (by decide), ys ++ [z], ?_, smut ((s.trans s2).trans s3) hD, upd_same⟩
      rw [e, hb]
      exact paired_app (mono ((bmut (sbut (s2.trans s3)))) py) (.cons (hP _ _ _ _ ((bmut (sbut (Same.refl _)))) pz) .nil)
    | false =>
      refine iteF ⟨ys, ?_, s.trans s2, s2 _ _ hd⟩
      rw [e, hb]
      simpa using mono (sbut s2) py
  · rintro H ⟨ys, py, s, hd⟩
    exact done ys H py s hd

theorem lc_map (w : Walk J n G Y) (Xp : Nat → V → Prop) (hY : ∀ i H x H', i < n → Y i H x H' → H' = H ∧ Xp i x) (P : Nat → V → Hp → Prop)
    (hG : ∀ H, Same H1 H → G H) (hD : H1 D = none) (hn : n ≤ 100000) (hw : ∀ x, wipe ((wipe σ vs).set sl (some x)) vs = wipe σ vs)
    (hP : ∀ j y H H', SameBut D H H' → P j y H → P j y H')
    (body : ∀ j x H, j < n → Xp j x → Same H1 H → H D ≠ none → ∀ Q : VK, (∀ y H', Same H H' → P j y H' → Q y H') → te ((wipe σ vs).set sl (some x)) H Q)
    (done : ∀ ys H, ys.length = n → (∀ j y, ys[j]? = some y → P j y H) → Same H1 H → H D = some (.lst ys) → Qd H) :
    ∃ W : Nat → Nat → Hp → Prop, (∃ m, W 0 m (upd H1 D (.lst []))) ∧ ∀ i m H, W i m H →
      (J.stop i H ∧ Qd H) ∨ (J.go i H ∧ ∃ Nx : Hp → Prop, (∀ H', Nx H' → ∃ m', m' < m ∧ W (i + 1) m' H') ∧ ∀ x H', J.yld i H x H' → gName sl x (wipe σ vs) H' fun σ2 H2 => wipe σ2 vs = wipe σ vs ∧ tYes σ2 H2 fun b H3 =>
        if b = true then te σ2 H3 fun y H4 => ∃ acc, H4 D = some (.lst acc) ∧ acc.length < sizeLine ∧ Nx (upd H4 D (.lst (acc ++ [y]))) else Nx H3) := by
  refine lc_it w (Pv := fun i H => ∃ ys, ys.length = i ∧ (∀ j y, ys[j]? = some y → P j y H) ∧ Same H1 H ∧ H D = some (.lst ys)) ⟨[], rfl, fun j y h => by simp at h, same_new hD, upd_same⟩ (fun i H _ ⟨_, _, _, s, _⟩ => hG H s) ?_ ?_
  · rintro i x H H' hi ⟨ys, hl, py, s, hd⟩ y
    obtain ⟨rfl, xp⟩ := hY i H x H' hi y
    refine ⟨hw x, iteT (B := Exists fun zs : List V => zs.length = i + 1 ∧ (∀ (j : Nat) (y : V), zs[j]? = some y → P j y H') ∧ Same H1 H' ∧ H' D = some (HO.lst zs)) ?_⟩
    refine body i x H' hi xp s (some_ne hd) _ fun z H3 s3 pz => ⟨ys, s3 _ _ hd, Nat.lt_of_le_of_lt (show ys.length ≤ 100000 by omega) (by decide), ys ++ [z], by simp [hl], fun j u hj => ?_, smut (s.trans s3) hD, upd_same⟩
    by_cases q : j < ys.length
    · rw [List.getElem?_append_left q] at hj
      exact hP _ _ _ _ ((bmut (sbut s3))) (py j u hj)
    · rw [List.getElem?_append_right (by omega)] at hj
      have e : j = i := by
        by_cases q2 : j - ys.length = 0
        · omega
        · rw [List.getElem?_eq_none_iff.mpr (by simp; omega)] at hj
          cases hj
      subst e
      rw [show j - ys.length = 0 by omega] at hj
      cases hj
      exact hP _ _ _ _ ((bmut (sbut (Same.refl _)))) pz
  · rintro H ⟨ys, hl, py, s, hd⟩
    exact done ys H hl py s hd
end

/-! ### promises over data -/
/-- a def of data that makes new data: of x, under pre, f x; what is in S stays out of it -/
def spP {α : Type} (K : PySem.W.Frag) (enc : α → List PyData) (pre : α → Prop) (f : α → PyData) : Sp := fun vs H Q _ => ∃ (S : Addr → Prop) (x : α), Kn S H ∧ DpAll K (off S H) vs (enc x) ∧ pre x ∧
  ∀ v H', Same H H' → Dp K (off S H') v (f x) → Q v H'
section
variable {α : Type} {K : PySem.W.Frag} {enc : α → List PyData} {pre : α → Prop} {f : α → PyData} {vs : List V} {H : Hp} {Q : VK} {E : XK}
theorem spP_len {n : Nat} (hn : ∀ x, (enc x).length = n) (h : spP K enc pre f vs H Q E) : vs.length = n := by
  obtain ⟨S, x, _, hd, _⟩ := h
  rw [← hn x]; exact dpa_len hd
/-- it is called, the answer flat -/
theorem spP_bl {b : Bool} {H0 : Hp} (e : Same H0 H) (x : α) (hd : DpAll K H0 vs (enc x)) (hp : pre x) (hf : f x = .bool b) (q : ∀ H', Same H H' → Q (.bl b) H') : spP K enc pre f vs H Q E := ⟨noS, x, kn_no, by rw [off_no]; exact dpa_same e _ _ hd, hp, fun v H' s h => by
  rw [hf] at h; cases h; exact q H' s⟩
theorem spP_int {b : Int} {H0 : Hp} (e : Same H0 H) (x : α) (hd : DpAll K H0 vs (enc x)) (hp : pre x) (hf : f x = .int b) (q : ∀ H', Same H H' → Q (.int b) H') : spP K enc pre f vs H Q E := ⟨noS, x, kn_no, by rw [off_no]; exact dpa_same e _ _ hd, hp, fun v H' s h => by
  rw [hf] at h; cases h; exact q H' s⟩
end
def d1 (d : PyData) : List PyData := [d]

/-! ### kinds of data -/
def tyN : PyData → String
  | .none => "NoneType"
  | .bool _ => "bool"
  | .int _ => "int"
  | .str _ => "str"
  | .list _ => "list"
  | .tuple _ => "tuple"
  | .dict _ => "dict"
end Kh

set_option maxRecDepth 100000
set_option maxHeartbeats 1000000
/-! operations on data -/
namespace Kh
open PySem PySem.Spec PyProof.Rows L2

theorem sq_ty {K : PySem.W.Frag} {H : Hp} {a : Addr} {xs : List V} (h : SqL K H a xs) : TyX K H (.ref a) (.type "list") := by
  rcases h with (h | ⟨o, h⟩) | ⟨o, its, n, h1, h2, _⟩
  · exact .base (.lst h)
  · exact .base (.frz h)
  · exact .kList h1 h2
theorem sqt_ty {K : PySem.W.Frag} {H : Hp} {a : Addr} {xs : List V} (h : SqT K H a xs) : TyX K H (.ref a) (.type "tuple") := by
  rcases h with (h | ⟨o, h⟩) | ⟨o, its, n, h1, h2, _⟩
  · exact .base (.tup h)
  · exact .fTuple h
  · exact .kTuple h1 h2
theorem tyx_d {K : PySem.W.Frag} {H : Hp} {v : V} {d : PyData} (h : Dp K H v d) : TyX K H v (.type (tyN d)) := by
  cases h with
  | non => exact .base .non
  | bl b => exact .base (.bl b)
  | int i => exact .base (.int i)
  | str x => exact .base (.str x)
  | lst hs _ => exact sq_ty hs
  | tup hs _ => exact sqt_ty hs
/-- isinstance(x, T) of data -/
theorem isi_d {K : PySem.W.Frag} {H0 H : Hp} {v : V} {d : PyData} {n : String} {b : Bool} {Q : VK} (e : Same H0 H) (h : Dp K H0 v d) (hk : kitB (tyN d) n = some b) (q : Q (.bl b) H) : rIsi K [v, .ty n] H Q :=
  ⟨v, .ty n, _, _, b, rfl, .ty n, tyx_d (dp_same e _ _ h), kit_ty hk, q⟩
theorem isi2_d {K : PySem.W.Frag} {H0 H : Hp} {v : V} {d : PyData} {n m : String} {b c : Bool} {Q : VK} {p : Addr} (e : Same H0 H) (h : Dp K H0 v d) (hp : H p = some (.tup [.ty n, .ty m])) (hk : kitB (tyN d) n = some b) (hc : kitB (tyN d) m = some c) (q : Q (.bl (b || c)) H) : rIsiT K [v, .ref p] H Q := by
  refine ⟨v, p, [.ty n, .ty m], .type (tyN d), [.type n, .type m], b || c, rfl, hp, .cons (.ty n) (.cons (.ty m) .nil), tyx_d (dp_same e _ _ h), ?_, q⟩
  refine kitAny_cons (kit_ty hk) (fun hb => ?_) (fun hb => by rw [hb]; rfl)
  refine kitAny_cons (kit_ty hc) (fun hd => ?_) (fun hd => by rw [hd]; cases b <;> rfl)
  rw [hb, hd]; exact kitAny_nil

/-- what a list or a tuple has -/
def items : PyData → Option (List PyData)
  | .list ds => some ds
  | .tuple ds => some ds
  | _ => none
theorem items_at {K : PySem.W.Frag} {H : Hp} {v : V} {d : PyData} {ds : List PyData} (h : Dp K H v d) (e : items d = some ds) : ∃ a xs, v = .ref a ∧ (SqL K H a xs ∨ SqT K H a xs) ∧ DpAll K H xs ds := by
  cases h with
  | non => cases e
  | bl b => cases e
  | int i => cases e
  | str x => cases e
  | lst hs ha => cases e; exact ⟨_, _, rfl, .inl hs, ha⟩
  | tup hs ha => cases e; exact ⟨_, _, rfl, .inr hs, ha⟩
theorem list_at {K : PySem.W.Frag} {H : Hp} {v : V} {ds : List PyData} (h : Dp K H v (.list ds)) : ∃ a xs, v = .ref a ∧ SqL K H a xs ∧ DpAll K H xs ds := by
  cases h with
  | lst hs ha => exact ⟨_, _, rfl, hs, ha⟩
theorem tup_at {K : PySem.W.Frag} {H : Hp} {v : V} {ds : List PyData} (h : Dp K H v (.tuple ds)) : ∃ a xs, v = .ref a ∧ SqT K H a xs ∧ DpAll K H xs ds := by
  cases h with
  | tup hs ha => exact ⟨_, _, rfl, hs, ha⟩
/-- x[i] of data, i written -/
theorem ix_d {K : PySem.W.Frag} {H0 H : Hp} {v : V} {d x : PyData} {ds : List PyData} {i : Nat} {Q : VK} (e : Same H0 H) (h : Dp K H0 v d) (hd : items d = some ds) (hi : ds[i]? = some x) (q : ∀ u, Dp K H0 u x → Q u H) : rIx K v (.int (i : Nat)) H Q := by
  obtain ⟨a, xs, rfl, hs, ha⟩ := items_at h hd
  obtain ⟨u, hu, du⟩ := dpa_get ha hi
  rcases hs with hs | hs
  · exact .inl ⟨a, xs, i, u, rfl, rfl, e.seq hs, atI_nat hu, q u du⟩
  · exact .inr (.inl ⟨a, xs, i, u, rfl, rfl, same_t e hs, atI_nat hu, q u du⟩)
def rLen (K : PySem.W.Frag) : List V → Hp → VK → Prop := fun xs H Q => ∃ p ys, xs = [.ref p] ∧ (SqL K H p ys ∨ SqT K H p ys) ∧ Q (.int ys.length) H
theorem len_d {K : PySem.W.Frag} {H0 H : Hp} {v : V} {d : PyData} {ds : List PyData} {Q : VK} (e : Same H0 H) (h : Dp K H0 v d) (hd : items d = some ds) (q : Q (.int (ds.length : Nat)) H) : rLen K [v] H Q := by
  obtain ⟨a, xs, rfl, hs, ha⟩ := items_at h hd
  refine ⟨a, xs, rfl, hs.imp (fun z => e.seq z) (fun z => same_t e z), ?_⟩
  rw [dpa_len ha]; exact q

/-! ### whole numbers -/
def iD (n : Nat) : PyData := .int n
theorem dpa_ints {K : PySem.W.Frag} {H : Hp} : ∀ {ns : List Int} {vs : List V}, DpAll K H vs (ns.map PyData.int) → vs = ns.map V.int
  | [], _, h => by cases h; rfl
  | n :: ns, _, h => by
    cases h with
    | cons h1 h2 => cases h1; rw [dpa_ints h2]; rfl
theorem ints_dpa {K : PySem.W.Frag} {H : Hp} : ∀ ns : List Int, DpAll K H (ns.map V.int) (ns.map PyData.int)
  | [] => .nil
  | n :: ns => .cons (.int n) (ints_dpa ns)
theorem flat_ints : ∀ ns : List Int, (ns.map V.int).all flatV = true
  | [] => rfl
  | n :: ns => by rw [List.map_cons, List.all_cons, flat_ints ns]; rfl
theorem inV_ints (n : Int) : ∀ ns : List Int, inV (.int n) (ns.map V.int) = decide (n ∈ ns)
  | [] => by simp [inV]
  | m :: ns => by
    have ih := inV_ints n ns
    unfold inV at ih ⊢
    rw [List.map_cons, List.any_cons, ih]
    show ((m == n) || decide (n ∈ ns)) = decide (n ∈ m :: ns)
    by_cases q : m = n
    · subst q; simp
    · have q2 : ¬ n = m := fun z => q z.symm
      rw [show (m == n) = false from beq_eq_false_iff_ne.mpr q]
      simp [q2]
/-- n in xs, n not in xs -/
theorem in_d {K : PySem.W.Frag} {H0 H : Hp} {v : V} {d : PyData} {ns : List Int} {n : Int} {Q : VK} {neg : Bool} (e : Same H0 H) (h : Dp K H0 v d) (hd : items d = some (ns.map PyData.int)) (q : Q (.bl (if neg then !decide (n ∈ ns) else decide (n ∈ ns))) H) : rIn K neg (.int n) v H Q := by
  obtain ⟨a, xs, rfl, hs, ha⟩ := items_at h hd
  have ex := dpa_ints ha
  subst ex
  refine ⟨a, _, rfl, hs.imp (fun z => e.seq z) (fun z => same_t e z), rfl, flat_ints ns, ?_⟩
  rw [inV_ints]; exact q

/-! ### built-ins by names of their own -/
section
variable {X : Cx}
theorem call_lenR : CallR X (.builtin "len") (rLen X.K) := call_len_seq
def rTupOf (K : PySem.W.Frag) : List V → Hp → VK → Prop := fun xs H Q => ∃ p ys, xs = [.ref p] ∧ ((SqL K H p ys ∧ ∀ l, H l = none → Q (.ref l) (upd H l (.tup ys))) ∨ (SqT K H p ys ∧ Q (.ref p) H))
theorem call_tupR : CallR X (.type "tuple") (rTupOf X.K) := call_tuple_of
def rListOf (K : PySem.W.Frag) : List V → Hp → VK → Prop := fun xs H Q => ∃ p ys, xs = [.ref p] ∧ (SqL K H p ys ∨ SqT K H p ys) ∧ ∀ l, H l = none → Q (.ref l) (upd H l (.lst ys))
theorem call_listR : CallR X (.type "list") (rListOf X.K) := call_list_of
def rAbs : List V → Hp → VK → Prop := fun xs H Q => ∃ i, xs = [.int i] ∧ Q (.int (if i < 0 then -i else i)) H
theorem call_absR : CallR X (.builtin "abs") rAbs := call_abs
def rMax2 : List V → Hp → VK → Prop := fun xs H Q => ∃ i j, xs = [.int i, .int j] ∧ Q (.int (if j > i then j else i)) H
theorem call_max2R (hc : X.calm = true) : CallR X (.builtin "max") rMax2 := call_max2 hc
def rMin2 : List V → Hp → VK → Prop := fun xs H Q => ∃ i j, xs = [.int i, .int j] ∧ Q (.int (if j < i then j else i)) H
theorem call_min2R (hc : X.calm = true) : CallR X (.builtin "min") rMin2 := call_min2 hc
def rInt1 : List V → Hp → VK → Prop := fun xs H Q => (∃ i, xs = [.int i] ∧ Q (.int i) H) ∨ ∃ k, xs = [.bl k] ∧ Q (.int (if k then 1 else 0)) H
theorem call_int1R : CallR X (.type "int") rInt1 := call_int1
end
theorem dpa_bools {K : PySem.W.Frag} {H : Hp} : ∀ {ns : List Bool} {vs : List V}, DpAll K H vs (ns.map PyData.bool) → vs = ns.map V.bl
  | [], _, h => by cases h; rfl
  | n :: ns, _, h => by
    cases h with
    | cons h1 h2 => cases h1; rw [dpa_bools h2]; rfl
theorem all_d {K : PySem.W.Frag} {H0 H : Hp} {v : V} {bs : List Bool} {Q : VK} (e : Same H0 H) (h : Dp K H0 v (.list (bs.map PyData.bool))) (q : Q (.bl (bs.all id)) H) : rAll K [v] H Q := by
  obtain ⟨a, xs, rfl, hs, ha⟩ := list_at h
  have ex := dpa_bools ha
  subst ex
  exact ⟨a, bs, rfl, e.seq hs, q⟩
theorem any_d {K : PySem.W.Frag} {H0 H : Hp} {v : V} {bs : List Bool} {Q : VK} (e : Same H0 H) (h : Dp K H0 v (.list (bs.map PyData.bool))) (q : Q (.bl (bs.any id)) H) : rAny K [v] H Q := by
  obtain ⟨a, xs, rfl, hs, ha⟩ := list_at h
  have ex := dpa_bools ha
  subst ex
  exact ⟨a, bs, rfl, e.seq hs, q⟩
theorem max_d {K : PySem.W.Frag} {H0 H : Hp} {v : V} {ns : List Int} {Q : VK} (e : Same H0 H) (h : Dp K H0 v (.list (ns.map PyData.int))) (hn : 0 < ns.length) (q : ∀ m, m ∈ ns → (∀ y, y ∈ ns → y ≤ m) → Q (.int m) H) : rMax K [v] H Q := by
  obtain ⟨a, xs, rfl, hs, ha⟩ := list_at h
  have ex := dpa_ints ha
  subst ex
  exact ⟨a, ns, rfl, e.seq hs, hn, q⟩
theorem tup_d {K : PySem.W.Frag} {S : Addr → Prop} {H : Hp} {v : V} {d : PyData} {ds : List PyData} {Q : VK} (kn : Kn S H) (h : Dp K (off S H) v d) (hd : items d = some ds) (q : ∀ u H', Same H H' → Dp K (off S H') u (.tuple ds) → Q u H') : rTupOf K [v] H Q := by
  cases h with
  | non => cases hd
  | bl b => cases hd
  | int i => cases hd
  | str x => cases hd
  | lst hs ha =>
    cases hd
    exact ⟨_, _, rfl, .inl ⟨off_sub.seq hs, fun l hl => q _ _ (same_new hl) (.tup (sqT (by rw [off_out (kn.new hl)]; exact upd_same)) (dpa_same (off_same (same_new hl)) _ _ ha))⟩⟩
  | tup hs ha =>
    cases hd
    exact ⟨_, _, rfl, .inr ⟨same_t off_sub hs, q _ _ (Same.refl H) (.tup hs ha)⟩⟩
theorem list_d {K : PySem.W.Frag} {S : Addr → Prop} {H : Hp} {v : V} {d : PyData} {ds : List PyData} {Q : VK} (kn : Kn S H) (h : Dp K (off S H) v d) (hd : items d = some ds) (q : ∀ l xs, H l = none → DpAll K (off S H) xs ds → Dp K (off S (upd H l (.lst xs))) (.ref l) (.list ds) → Q (.ref l) (upd H l (.lst xs))) : rListOf K [v] H Q := by
  obtain ⟨a, xs, rfl, hs, ha⟩ := items_at h hd
  refine ⟨a, xs, rfl, hs.imp (fun z => off_sub.seq z) (fun z => same_t off_sub z), fun l hl => q l xs hl ha ?_⟩
  exact .lst (sqL (by rw [off_out (kn.new hl)]; exact upd_same)) (dpa_same (off_same (same_new hl)) _ _ ha)
end Kh

set_option maxRecDepth 100000
/-! trees: the mathematics -/
namespace Kh
open PySem
inductive T where
  | leaf (n : Nat)
  | gate (b : Bool) (k : Nat) (ps : List T)
theorem T.ind {P : T → Prop} (hl : ∀ n, P (.leaf n)) (hg : ∀ b k ps, (∀ p ∈ ps, P p) → P (.gate b k ps)) : ∀ t, P t := fun t =>
  T.rec (motive_1 := P) (motive_2 := fun ps => ∀ p ∈ ps, P p) hl (fun b k ps h => hg b k ps h) (fun p h => nomatch h) (fun t ts h1 h2 p hp => by
    rcases List.mem_cons.mp hp with rfl | hp
    · exact h1
    · exact h2 p hp) t
def sq (b : Bool) (ds : List PyData) : PyData := if b then .tuple ds else .list ds
theorem items_sq (b : Bool) (ds : List PyData) : items (sq b ds) = some ds := by cases b <;> rfl
mutual
def tD : T → PyData
  | .leaf n => .int (n : Nat)
  | .gate b k ps => .tuple [.str "of", .int (k : Nat), sq b (tDs ps)]
def tDs : List T → List PyData
  | [] => []
  | p :: ps => tD p :: tDs ps
end
mutual
def lv : T → List Nat
  | .leaf n => [n]
  | .gate _ _ ps => lvs ps
def lvs : List T → List Nat
  | [] => []
  | p :: ps => lv p ++ lvs ps
end
mutual
def dep : T → Nat
  | .leaf _ => 0
  | .gate _ _ ps => 1 + deps ps
def deps : List T → Nat
  | [] => 0
  | p :: ps => max (dep p) (deps ps)
end
mutual
def siz : T → Nat
  | .leaf _ => 1
  | .gate _ _ ps => 1 + sizs ps
def sizs : List T → Nat
  | [] => 0
  | p :: ps => siz p + sizs ps
end
mutual
/-- all parts told by tuples (true), by lists (false) -/
def flg (c : Bool) : T → T
  | .leaf n => .leaf n
  | .gate _ k ps => .gate c k (flgs c ps)
def flgs (c : Bool) : List T → List T
  | [] => []
  | p :: ps => flg c p :: flgs c ps
end
mutual
/-- the contrary, its parts lists -/
def con : T → T
  | .leaf n => .leaf n
  | .gate _ k ps => .gate false (ps.length + 1 - k) (cons_ ps)
def cons_ : List T → List T
  | [] => []
  | p :: ps => con p :: cons_ ps
end
mutual
def st (s : List Nat) : T → Bool
  | .leaf n => decide (n ∈ s)
  | .gate _ k ps => decide (k ≤ sts s ps)
def sts (s : List Nat) : List T → Nat
  | [] => 0
  | p :: ps => (if st s p then 1 else 0) + sts s ps
end
mutual
def Wf : T → Prop
  | .leaf n => n < 24
  | .gate _ k ps => 1 ≤ k ∧ k ≤ ps.length ∧ Wfs ps
def Wfs : List T → Prop
  | [] => True
  | p :: ps => Wf p ∧ Wfs ps
end
theorem tDs_map : ∀ ps : List T, tDs ps = ps.map tD
  | [] => by simp [tDs]
  | p :: ps => by simp [tDs, tDs_map ps]
theorem lvs_map : ∀ ps : List T, lvs ps = ps.flatMap lv
  | [] => by simp [lvs]
  | p :: ps => by simp [lvs, lvs_map ps]
theorem flgs_map (c : Bool) : ∀ ps : List T, flgs c ps = ps.map (flg c)
  | [] => by simp [flgs]
  | p :: ps => by simp [flgs, flgs_map c ps]
theorem cons_map : ∀ ps : List T, cons_ ps = ps.map con
  | [] => by simp [cons_]
  | p :: ps => by simp [cons_, cons_map ps]
theorem sts_filter (s : List Nat) : ∀ ps : List T, sts s ps = (ps.filter (st s)).length
  | [] => by simp [sts]
  | p :: ps => by
    rw [sts, sts_filter s ps, List.filter_cons]
    cases st s p <;> simp [Nat.add_comm]
theorem wfs_all : ∀ ps : List T, Wfs ps ↔ ∀ p ∈ ps, Wf p
  | [] => by simp [Wfs]
  | p :: ps => by simp [Wfs, wfs_all ps]
theorem deps_le {d : Nat} : ∀ ps : List T, deps ps ≤ d ↔ ∀ p ∈ ps, dep p ≤ d
  | [] => by simp [deps]
  | p :: ps => by simp [deps, deps_le ps, Nat.max_le]
theorem tD_gate (b : Bool) (k : Nat) (ps : List T) : tD (.gate b k ps) = .tuple [.str "of", .int (k : Nat), sq b (ps.map tD)] := by rw [tD, tDs_map]
theorem lv_gate (b : Bool) (k : Nat) (ps : List T) : lv (.gate b k ps) = ps.flatMap lv := by rw [lv, lvs_map]
theorem flg_gate (c b : Bool) (k : Nat) (ps : List T) : flg c (.gate b k ps) = .gate c k (ps.map (flg c)) := by rw [flg, flgs_map]
theorem con_gate (b : Bool) (k : Nat) (ps : List T) : con (.gate b k ps) = .gate false (ps.length + 1 - k) (ps.map con) := by rw [con, cons_map]
theorem st_gate (s : List Nat) (b : Bool) (k : Nat) (ps : List T) : st s (.gate b k ps) = decide (k ≤ (ps.filter (st s)).length) := by rw [st, sts_filter]
theorem wf_gate (b : Bool) (k : Nat) (ps : List T) : Wf (.gate b k ps) ↔ 1 ≤ k ∧ k ≤ ps.length ∧ ∀ p ∈ ps, Wf p := by rw [Wf, wfs_all]
theorem dep_gate {d : Nat} (b : Bool) (k : Nat) (ps : List T) : dep (.gate b k ps) ≤ d + 1 ↔ ∀ p ∈ ps, dep p ≤ d := by
  rw [dep, ← deps_le]; omega
theorem dep_gate0 (b : Bool) (k : Nat) (ps : List T) : ¬ dep (.gate b k ps) ≤ 0 := by rw [dep]; omega
theorem lv_leaf (n : Nat) : lv (.leaf n) = [n] := by rw [lv]
theorem tD_leaf (n : Nat) : tD (.leaf n) = .int (n : Nat) := by rw [tD]
theorem flg_leaf (c : Bool) (n : Nat) : flg c (.leaf n) = .leaf n := by rw [flg]
theorem con_leaf (n : Nat) : con (.leaf n) = .leaf n := by rw [con]
theorem st_leaf (s : List Nat) (n : Nat) : st s (.leaf n) = decide (n ∈ s) := by rw [st]
end Kh

set_option maxRecDepth 100000
/-! kinds of data, by the kernel -/
namespace Kh
open PySem PySem.Spec PyProof.Rows L2
def kInt : PyData → Bool | .int _ => true | .bool _ => true | _ => false
def kBool : PyData → Bool | .bool _ => true | _ => false
def kStr : PyData → Bool | .str _ => true | _ => false
def kTup : PyData → Bool | .tuple _ => true | _ => false
def kList : PyData → Bool | .list _ => true | _ => false
theorem kit_int : ∀ d : PyData, kitB (tyN d) "int" = some (kInt d)
  | .none => (by decide +kernel : kitB "NoneType" "int" = some false)
  | .bool _ => (by decide +kernel : kitB "bool" "int" = some true)
  | .int _ => (by decide +kernel : kitB "int" "int" = some true)
  | .str _ => (by decide +kernel : kitB "str" "int" = some false)
  | .list _ => (by decide +kernel : kitB "list" "int" = some false)
  | .tuple _ => (by decide +kernel : kitB "tuple" "int" = some false)
  | .dict _ => (by decide +kernel : kitB "dict" "int" = some false)
theorem kit_bool : ∀ d : PyData, kitB (tyN d) "bool" = some (kBool d)
  | .none => (by decide +kernel : kitB "NoneType" "bool" = some false)
  | .bool _ => (by decide +kernel : kitB "bool" "bool" = some true)
  | .int _ => (by decide +kernel : kitB "int" "bool" = some false)
  | .str _ => (by decide +kernel : kitB "str" "bool" = some false)
  | .list _ => (by decide +kernel : kitB "list" "bool" = some false)
  | .tuple _ => (by decide +kernel : kitB "tuple" "bool" = some false)
  | .dict _ => (by decide +kernel : kitB "dict" "bool" = some false)
theorem kit_str : ∀ d : PyData, kitB (tyN d) "str" = some (kStr d)
  | .none => (by decide +kernel : kitB "NoneType" "str" = some false)
  | .bool _ => (by decide +kernel : kitB "bool" "str" = some false)
  | .int _ => (by decide +kernel : kitB "int" "str" = some false)
  | .str _ => (by decide +kernel : kitB "str" "str" = some true)
  | .list _ => (by decide +kernel : kitB "list" "str" = some false)
  | .tuple _ => (by decide +kernel : kitB "tuple" "str" = some false)
  | .dict _ => (by decide +kernel : kitB "dict" "str" = some false)
theorem kit_tup : ∀ d : PyData, kitB (tyN d) "tuple" = some (kTup d)
  | .none => (by decide +kernel : kitB "NoneType" "tuple" = some false)
  | .bool _ => (by decide +kernel : kitB "bool" "tuple" = some false)
  | .int _ => (by decide +kernel : kitB "int" "tuple" = some false)
  | .str _ => (by decide +kernel : kitB "str" "tuple" = some false)
  | .list _ => (by decide +kernel : kitB "list" "tuple" = some false)
  | .tuple _ => (by decide +kernel : kitB "tuple" "tuple" = some true)
  | .dict _ => (by decide +kernel : kitB "dict" "tuple" = some false)
theorem kit_list : ∀ d : PyData, kitB (tyN d) "list" = some (kList d)
  | .none => (by decide +kernel : kitB "NoneType" "list" = some false)
  | .bool _ => (by decide +kernel : kitB "bool" "list" = some false)
  | .int _ => (by decide +kernel : kitB "int" "list" = some false)
  | .str _ => (by decide +kernel : kitB "str" "list" = some false)
  | .list _ => (by decide +kernel : kitB "list" "list" = some true)
  | .tuple _ => (by decide +kernel : kitB "tuple" "list" = some false)
  | .dict _ => (by decide +kernel : kitB "dict" "list" = some false)
def isIntD : PyData → Bool | .int _ => true | _ => false
def isCountD : PyData → Bool | .int i => decide (0 ≤ i) | _ => false
def isListD (d : PyData) : Bool := kList d || kTup d
def belowD (m : Int) : PyData → Bool | .int i => decide (0 ≤ i) && decide (i < m) | _ => false
end Kh

set_option maxRecDepth 100000
/-! readings, piece by piece -/
namespace Kh
open PySem PySem.Spec PyProof.Rows L2
section
variable {σ : L2.St} {H : Hp} {Q : VK} {D : Ends} {te ta tb tc : TE} {tt tu : TT} {ts tv : TS} {r r' : R2} {c1 : List V → Hp → VK → Prop} {sp : Sp} {E : XK} {v : V} {i : Nat} {K : PySem.W.Frag}
theorem t_var (h : σ[i]? = some (some v)) (q : Q v H) : tVar i σ H Q := ⟨v, h, q⟩
theorem t_c (q : Q v H) : tC v σ H Q := q
theorem t_op (h : ta σ H fun x H1 => tb σ H1 fun y H2 => r x y H2 Q) : tOp r ta tb σ H Q := h
theorem t_un {u1 : V → Hp → VK → Prop} (h : ta σ H fun x H1 => u1 x H1 Q) : tUn u1 ta σ H Q := h
theorem t_cb1 (h : ta σ H fun x H1 => c1 [x] H1 Q) : tCB c1 (tCons ta tNil) σ H Q := h
theorem t_cb2 (h : ta σ H fun x H1 => tb σ H1 fun y H2 => c1 [x, y] H2 Q) : tCB c1 (tCons ta (tCons tb tNil)) σ H Q := h
theorem t_call1 (h : ta σ H fun x H1 => sp [x] H1 Q E) : tCall sp [] E (tCons ta tNil) σ H Q := h
theorem t_call2 (h : ta σ H fun x H1 => tb σ H1 fun y H2 => sp [x, y] H2 Q E) : tCall sp [] E (tCons ta (tCons tb tNil)) σ H Q := h
theorem t_call3 (h : ta σ H fun x H1 => tb σ H1 fun y H2 => tc σ H2 fun z H3 => sp [x, y, z] H3 Q E) : tCall sp [] E (tCons ta (tCons tb (tCons tc tNil))) σ H Q := h
theorem t_notV (h : ta σ H fun x H1 => ∃ c, x = .bl c ∧ Q (.bl (!c)) H1) : tNotV ta σ H Q := h
theorem t_andV (h : ta σ H fun x H1 => ∃ c, x = .bl c ∧ if c = true then tb σ H1 Q else Q (.bl false) H1) : tAndV ta tb σ H Q := h
theorem t_orV (h : ta σ H fun x H1 => ∃ c, x = .bl c ∧ if c = true then Q (.bl true) H1 else tb σ H1 Q) : tOrV ta tb σ H Q := h
theorem t_if (h : tt σ H fun c H1 => if c = true then ta σ H1 Q else tb σ H1 Q) : tIf tt ta tb σ H Q := h
theorem t_lst0 (h : ∀ p, H p = none → Q (.ref p) (upd H p (.lst []))) : tLst tNil σ H Q := ⟨Nat.zero_le _, h⟩
theorem t_lst1 (h : ta σ H fun x H1 => ∀ p, H1 p = none → Q (.ref p) (upd H1 p (.lst [x]))) (m : ∀ Q Q' : VK, (∀ v H, Q v H → Q' v H) → ta σ H Q → ta σ H Q') : tLst (tCons ta tNil) σ H Q := m _ _ (fun x _ h => ⟨show [x].length ≤ sizeLine from Nat.le_trans (show 1 ≤ 1000 by decide) (by decide), h⟩) h
theorem t_tup {t : TA} (h : t σ H fun xs H1 => xs.length ≤ sizeLine ∧ ∀ p, H1 p = none → Q (.ref p) (upd H1 p (.tup xs))) : tTup t σ H Q := h
theorem t_lst {t : TA} (h : t σ H fun xs H1 => xs.length ≤ sizeLine ∧ ∀ p, H1 p = none → Q (.ref p) (upd H1 p (.lst xs))) : tLst t σ H Q := h
theorem a_cons {t : TA} {q : List V → Hp → Prop} (h : te σ H fun x H1 => t σ H1 fun xs H2 => q (x :: xs) H2) : tCons te t σ H q := h
theorem a_nil {q : List V → Hp → Prop} (h : q [] H) : tNil σ H q := h
theorem t_bm {K : PySem.W.Frag} {T : String} {r3 : V → List V → Hp → VK → Prop} {t : TA} (h : te σ H fun x H1 => tyV K T x H1 ∧ t σ H1 fun xs H2 => r3 x xs H2 Q) : tBM K T r3 te t σ H Q := h
theorem t_bm0 {K : PySem.W.Frag} {T : String} {r3 : V → List V → Hp → VK → Prop} (h : te σ H fun x H1 => tyV K T x H1 ∧ r3 x [] H1 Q) : tBM0 K T r3 te σ H Q := h
theorem t_call {t : TA} (h : t σ H fun vs H1 => sp vs H1 Q E) : tCall sp [] E t σ H Q := by
  have e : (fun (vs : List V) (H1 : Hp) => sp (vs ++ []) H1 Q E) = fun vs H1 => sp vs H1 Q E := by funext vs H1; rw [List.append_nil]
  show t σ H fun vs H1 => sp (vs ++ []) H1 Q E
  rw [e]; exact h
theorem t_cb {t : TA} (h : t σ H fun vs H1 => c1 vs H1 Q) : tCB c1 t σ H Q := h
theorem b_test {q : Bool → Hp → Prop} (h : te σ H fun x H1 => ∃ k, x = .bl k ∧ q k H1) : tTest te σ H q := h
theorem b_val {q : Bool → Hp → Prop} (h : te σ H fun x H1 => ∃ k, x = .bl k ∧ q k H1) : tB te σ H q := h
theorem b_not {q : Bool → Hp → Prop} (h : tt σ H fun b H1 => q (!b) H1) : tNot tt σ H q := h
theorem b_and {q : Bool → Hp → Prop} (h : tt σ H fun c H1 => if c = true then tu σ H1 q else q false H1) : tAnd tt tu σ H q := h
theorem b_or {q : Bool → Hp → Prop} (h : tt σ H fun c H1 => if c = true then q true H1 else tu σ H1 q) : tOr tt tu σ H q := h
theorem s_ret (h : te σ H D.rt) : tRet te D σ H := h
theorem s_if (h : tt σ H fun b H1 => if b = true then ts D σ H1 else tv D σ H1) : tIfS tt ts tv D σ H := h
theorem s_seq (h : ts { D with nx := tv D } σ H) : tSeq ts tv D σ H := h
theorem s_set (h : te σ H fun x H1 => D.nx (σ.set i (some x)) H1) : tAsg te (gName i) D σ H := h
theorem s_next {f : L2.St → Hp → Prop} {r : VK} {b c : L2.St → Hp → Prop} (h : f σ H) : tNext { nx := f, rt := r, bk := b, ct := c } σ H := h
theorem nx_of {f : L2.St → Hp → Prop} {r : VK} {b c : L2.St → Hp → Prop} (h : f σ H) : Ends.nx { nx := f, rt := r, bk := b, ct := c } σ H := h
theorem s_drop (h : te σ H fun _ H1 => D.nx σ H1) : tDrop te D σ H := h
end
/-- a bool, then by cases -/
theorem bl_if {b : Bool} {A B : Prop} (h1 : b = true → A) (h2 : b = false → B) : ∃ c, V.bl b = V.bl c ∧ if c = true then A else B :=
  ⟨b, rfl, by cases b with
    | true => exact iteT (h1 rfl)
    | false => exact iteF (h2 rfl)⟩
theorem bl_ifT {A B : Prop} (h1 : A) : ∃ c, V.bl true = V.bl c ∧ if c = true then A else B := bl_if (fun _ => h1) fun z => nomatch z
theorem bl_ifF {A B : Prop} (h1 : B) : ∃ c, V.bl false = V.bl c ∧ if c = true then A else B := bl_if (fun z => nomatch z) fun _ => h1
theorem if_b {b : Bool} {A B : Prop} (h1 : b = true → A) (h2 : b = false → B) : if b = true then A else B := by
  cases b with
  | true => exact iteT (h1 rfl)
  | false => exact iteF (h2 rfl)
theorem ii {i j : Int} {C : Int → Int → Prop} (h : C i j) : ∃ k l, V.int i = V.int k ∧ V.int j = V.int l ∧ C k l := ⟨i, j, rfl, rfl, h⟩
end Kh

set_option maxRecDepth 100000
set_option maxHeartbeats 1000000
/-! comprehensions over data -/
namespace Kh
open PySem PySem.Spec PyProof.Rows L2
theorem le1 : 1 ≤ sizeLine := by decide
theorem le2 : 2 ≤ sizeLine := by decide
theorem le3 : 3 ≤ sizeLine := by decide
theorem le4 : 4 ≤ sizeLine := by decide
theorem le5 : 5 ≤ sizeLine := by decide
theorem ifT {b : Bool} {A B : Prop} (e : b = true) (h : A) : if b = true then A else B := by rw [e]; exact iteT h
theorem ifF {b : Bool} {A B : Prop} (e : b = false) (h : B) : if b = true then A else B := by rw [e]; exact iteF h
/-- a new object keeps the rest of what is told -/
theorem off_plus {S : Addr → Prop} {H1 H : Hp} {D : Addr} (hD : H1 D = none) (s : Same H1 H) : Same (off S H1) (off (plus S D) H) := fun b o h => by
  obtain ⟨n, h⟩ := off_some h
  rw [off_out]
  · exact s b o h
  · rintro (z | rfl)
    · exact n z
    · rw [hD] at h; cases h
theorem off_fin {S : Addr → Prop} {H : Hp} {D : Addr} : Same (off (plus S D) H) (off S H) := off_less fun _ h => .inl h
/-- a new list or tuple of data -/
theorem dp_lst {K : PySem.W.Frag} {S : Addr → Prop} {H : Hp} {D : Addr} {ys : List V} {ds : List PyData} (n : ¬ S D) (h : H D = some (.lst ys)) (a : DpAll K (off S H) ys ds) : Dp K (off S H) (.ref D) (.list ds) :=
  .lst (sqL (by rw [off_out n]; exact h)) a
theorem dp_tup {K : PySem.W.Frag} {S : Addr → Prop} {H : Hp} {D : Addr} {ys : List V} {ds : List PyData} (n : ¬ S D) (h : H D = some (.tup ys)) (a : DpAll K (off S H) ys ds) : Dp K (off S H) (.ref D) (.tuple ds) :=
  .tup (sqT (by rw [off_out n]; exact h)) a
theorem dp_newT {K : PySem.W.Frag} {S : Addr → Prop} {H : Hp} {D : Addr} {ys : List V} {ds : List PyData} (kn : Kn S H) (h : H D = none) (a : DpAll K (off S H) ys ds) : Dp K (off S (upd H D (.tup ys))) (.ref D) (.tuple ds) :=
  dp_tup (kn.new h) upd_same (dpa_same (off_same (same_new h)) _ _ a)
theorem dp_newL {K : PySem.W.Frag} {S : Addr → Prop} {H : Hp} {D : Addr} {ys : List V} {ds : List PyData} (kn : Kn S H) (h : H D = none) (a : DpAll K (off S H) ys ds) : Dp K (off S (upd H D (.lst ys))) (.ref D) (.list ds) :=
  dp_lst (kn.new h) upd_same (dpa_same (off_same (same_new h)) _ _ a)
theorem dp_bl {K : PySem.W.Frag} {H : Hp} {b c : Bool} (e : b = c) : Dp K H (.bl b) (.bool c) := by subst e; exact .bl b
theorem dp_int {K : PySem.W.Frag} {H : Hp} {b c : Int} (e : b = c) : Dp K H (.int b) (.int c) := by subst e; exact .int b
/-- what is walked: a list or a tuple of data -/
theorem it_any {K : PySem.W.Frag} {S : Addr → Prop} {H : Hp} {σ : L2.St} {t : TE} {R : It → Hp → Prop} {b : Bool} {ds : List PyData}
    (hev : ∀ Q : VK, (∀ u H1, Same H H1 → Dp K (off S H1) u (sq b ds) → Q u H1) → t σ H Q)
    (k : ∀ J xs H1, Same H H1 → DpAll K (off S H1) xs ds → Walk J xs.length (fun H' => Same (off S H1) H') (YAt xs) → R J H1) : iList K t σ H R ∨ iTup K t σ H R := by
  cases b with
  | false =>
    refine .inl (hev _ fun u H1 s du => ?_)
    obtain ⟨a, xs, rfl, hs, ha⟩ := list_at du
    exact ⟨a, rfl, ⟨xs, off_sub.seq hs⟩, k _ xs H1 s ha (walk_list.mono (fun H' z => z.seq hs) fun _ _ _ _ _ _ y => y)⟩
  | true =>
    refine .inr (hev _ fun u H1 s du => ?_)
    obtain ⟨a, xs, rfl, hs, ha⟩ := tup_at du
    exact ⟨a, rfl, ⟨xs, same_t off_sub hs⟩, k _ xs H1 s ha (walk_tup.mono (fun H' z => same_t z hs) fun _ _ _ _ _ _ y => y)⟩
theorem range_map {α β : Type} {l : List α} {f : Nat → β} {g : α → β} (h : ∀ i x, l[i]? = some x → f i = g x) : (List.range l.length).map f = l.map g := by
  apply List.ext_getElem?
  intro i
  by_cases q : i < l.length
  · rw [List.getElem?_map, List.getElem?_map, List.getElem?_range q, List.getElem?_eq_getElem q]
    simp [h i _ (List.getElem?_eq_getElem q)]
  · rw [List.getElem?_eq_none_iff.mpr (by simp; omega), List.getElem?_eq_none_iff.mpr (by simp; omega)]
/-- [e for x in xs], e data of the item -/
theorem lc_dat {K : PySem.W.Frag} {S : Addr → Prop} {H1 : Hp} {σ : L2.St} {te : TE} {sl : Nat} {vs : List Nat} {Qd : VK} {J : It} {xs : List V} {ds : List PyData} (f : Nat → PyData)
    (w : Walk J xs.length (fun H' => Same (off S H1) H') (YAt xs)) (ha : DpAll K (off S H1) xs ds) (kn : Kn S H1) (hn : ds.length ≤ 100000) (hw : ∀ x, wipe ((wipe σ vs).set sl (some x)) vs = wipe σ vs)
    (body : ∀ j x d H S', ds[j]? = some d → Same H1 H → Kn S' H → Dp K (off S' H) x d → (∀ a, S a → S' a) → Same (off S H1) (off S' H) → ∀ Q : VK, (∀ y H', Same H H' → Dp K (off S' H') y (f j) → Q y H') → te ((wipe σ vs).set sl (some x)) H Q)
    (done : ∀ D H ys, H1 D = none → Same H1 H → H D = some (.lst ys) → Dp K (off S H) (.ref D) (.list ((List.range ds.length).map f)) → Qd (.ref D) H) :
    ∀ D, H1 D = none → ∃ W : Nat → Nat → Hp → Prop, (∃ m, W 0 m (upd H1 D (.lst []))) ∧ ∀ i m H, W i m H →
      (J.stop i H ∧ Qd (.ref D) H) ∨ (J.go i H ∧ ∃ Nx : Hp → Prop, (∀ H', Nx H' → ∃ m', m' < m ∧ W (i + 1) m' H') ∧ ∀ x H', J.yld i H x H' → gName sl x (wipe σ vs) H' fun σ2 H2 => wipe σ2 vs = wipe σ vs ∧ tYes σ2 H2 fun b H3 =>
        if b = true then te σ2 H3 fun y H4 => ∃ acc, H4 D = some (.lst acc) ∧ acc.length < sizeLine ∧ Nx (upd H4 D (.lst (acc ++ [y]))) else Nx H3) := by
  intro D hD
  have ln := dpa_len ha
  refine lc_map (Qd := Qd (.ref D)) w (fun j x => xs[j]? = some x) (fun i H x H' _ y => y) (fun j y H => Dp K (off (plus S D) H) y (f j)) (fun H s => off_sub.trans s) hD (by omega) hw (fun j y H H' e h => dp_same (off_but e) _ _ h) (fun j x H hj xj s hd Q q => ?_) (fun ys H hl py s hd => ?_)
  · obtain ⟨d, dj, dx⟩ := dpa_at ha xj
    exact body j x d H (plus S D) dj s ((kn.same s).plus hd) (dp_same (off_plus hD s) _ _ dx) (fun _ h => .inl h) (off_plus hD s) Q q
  · refine done D H ys hD s hd (dp_lst (kn.new hD) hd ?_)
    refine dpa_same (off_fin (D := D)) _ _ (dpa_of (by simp [hl, ln]) fun i v d h1 h2 => ?_)
    have hi : i < ds.length := by
      have := (List.getElem?_eq_some_iff.mp h1).1
      omega
    rw [List.getElem?_map, List.getElem?_range hi] at h2
    cases h2
    exact py i v h1
/-- [e for x in xs if t], t known item by item -/
theorem lc_datF {K : PySem.W.Frag} {S : Addr → Prop} {H1 : Hp} {σ : L2.St} {te : TE} {tt : TT} {sl : Nat} {vs : List Nat} {Qd : VK} {J : It} {xs : List V} {ds : List PyData} (pt : Nat → Bool) (f : Nat → PyData)
    (w : Walk J xs.length (fun H' => Same (off S H1) H') (YAt xs)) (ha : DpAll K (off S H1) xs ds) (kn : Kn S H1) (hn : ds.length ≤ 100000) (hw : ∀ x, wipe ((wipe σ vs).set sl (some x)) vs = wipe σ vs)
    (test : ∀ j x d H S', ds[j]? = some d → Same H1 H → Kn S' H → Dp K (off S' H) x d → (∀ a, S a → S' a) → Same (off S H1) (off S' H) → ∀ Q : Bool → Hp → Prop, (∀ H', Same H H' → Q (pt j) H') → tt ((wipe σ vs).set sl (some x)) H Q)
    (body : ∀ j x d H S', ds[j]? = some d → pt j = true → Same H1 H → Kn S' H → Dp K (off S' H) x d → (∀ a, S a → S' a) → Same (off S H1) (off S' H) → ∀ Q : VK, (∀ y H', Same H H' → Dp K (off S' H') y (f j) → Q y H') → te ((wipe σ vs).set sl (some x)) H Q)
    (done : ∀ D H ys, H1 D = none → Same H1 H → H D = some (.lst ys) → Dp K (off S H) (.ref D) (.list (((List.range ds.length).filter pt).map f)) → Qd (.ref D) H) :
    ∀ D, H1 D = none → ∃ W : Nat → Nat → Hp → Prop, (∃ m, W 0 m (upd H1 D (.lst []))) ∧ ∀ i m H, W i m H →
      (J.stop i H ∧ Qd (.ref D) H) ∨ (J.go i H ∧ ∃ Nx : Hp → Prop, (∀ H', Nx H' → ∃ m', m' < m ∧ W (i + 1) m' H') ∧ ∀ x H', J.yld i H x H' → gName sl x (wipe σ vs) H' fun σ2 H2 => wipe σ2 vs = wipe σ vs ∧ tt σ2 H2 fun b H3 =>
        if b = true then te σ2 H3 fun y H4 => ∃ acc, H4 D = some (.lst acc) ∧ acc.length < sizeLine ∧ Nx (upd H4 D (.lst (acc ++ [y]))) else Nx H3) := by
  intro D hD
  have ln := dpa_len ha
  refine lc_filt (Qd := Qd (.ref D)) w (fun j x => xs[j]? = some x) (fun i H x H' _ y => y) pt (fun j y H => Dp K (off (plus S D) H) y (f j)) (fun H s => off_sub.trans s) hD (by omega) hw (fun j y H H' e h => dp_same (off_but e) _ _ h) (fun j x H hj xj s hd Q q => ?_) (fun j x H hj xj pj s hd Q q => ?_) (fun ys H py s hd => ?_)
  · obtain ⟨d, dj, dx⟩ := dpa_at ha xj
    exact test j x d H (plus S D) dj s ((kn.same s).plus hd) (dp_same (off_plus hD s) _ _ dx) (fun _ h => .inl h) (off_plus hD s) Q q
  · obtain ⟨d, dj, dx⟩ := dpa_at ha xj
    exact body j x d H (plus S D) dj pj s ((kn.same s).plus hd) (dp_same (off_plus hD s) _ _ dx) (fun _ h => .inl h) (off_plus hD s) Q q
  · refine done D H ys hD s hd (dp_lst (kn.new hD) hd ?_)
    rw [ln] at py
    refine dpa_same (off_fin (D := D)) _ _ ?_
    have go : ∀ {l : List Nat} {ys : List V}, Paired (fun j y => Dp K (off (plus S D) H) y (f j)) l ys → DpAll K (off (plus S D) H) ys (l.map f) := by
      intro l ys p
      induction p with
      | nil => exact .nil
      | cons r t ih => exact .cons r ih
    exact go py
theorem lc_seqF {K : PySem.W.Frag} {S : Addr → Prop} {H : Hp} {σ : L2.St} {t te : TE} {tt : TT} {sl : Nat} {vs : List Nat} {Q : VK} {b : Bool} {ds : List PyData} (pt : Nat → Bool) (f : Nat → PyData) (kn : Kn S H)
    (hev : ∀ Q : VK, (∀ u H1, Same H H1 → Dp K (off S H1) u (sq b ds) → Q u H1) → t σ H Q) (hn : ds.length ≤ 100000) (hw : ∀ x, wipe ((wipe σ vs).set sl (some x)) vs = wipe σ vs)
    (test : ∀ j x d H1 S', ds[j]? = some d → Same H H1 → Kn S' H1 → Dp K (off S' H1) x d → (∀ a, S a → S' a) → Same (off S H) (off S' H1) → ∀ Q : Bool → Hp → Prop, (∀ H', Same H1 H' → Q (pt j) H') → tt ((wipe σ vs).set sl (some x)) H1 Q)
    (body : ∀ j x d H1 S', ds[j]? = some d → pt j = true → Same H H1 → Kn S' H1 → Dp K (off S' H1) x d → (∀ a, S a → S' a) → Same (off S H) (off S' H1) → ∀ Q : VK, (∀ y H', Same H1 H' → Dp K (off S' H') y (f j) → Q y H') → te ((wipe σ vs).set sl (some x)) H1 Q)
    (done : ∀ D H1 ys, H D = none → Same H H1 → H1 D = some (.lst ys) → Dp K (off S H1) (.ref D) (.list (((List.range ds.length).filter pt).map f)) → Q (.ref D) H1) :
    tLc (fun σ H R => iList K t σ H R ∨ iTup K t σ H R) (gName sl) tt te vs σ H Q :=
  it_any hev fun J xs H1 s ha w => lc_datF pt f w ha (kn.same s) hn hw (fun j x d H2 S' dj s2 kn2 dx hS hoff Q q => test j x d H2 S' dj (s.trans s2) kn2 dx hS ((off_same s).trans hoff) Q q)
    (fun j x d H2 S' dj pj s2 kn2 dx hS hoff Q q => body j x d H2 S' dj pj (s.trans s2) kn2 dx hS ((off_same s).trans hoff) Q q)
    fun D H2 ys hD s2 hd h => done D H2 ys (s.free hD) (s.trans s2) hd h
theorem range_filter {α β : Type} {l : List α} {pt : Nat → Bool} {p : α → Bool} {f : Nat → β} {g : α → β} (h : ∀ i x, l[i]? = some x → pt i = p x ∧ f i = g x) : ((List.range l.length).filter pt).map f = (l.filter p).map g := by
  have go : ∀ n, n ≤ l.length → ((List.range n).filter pt).map f = ((l.take n).filter p).map g := by
    intro n
    induction n with
    | zero => intro _; simp
    | succ n ih =>
      intro hn
      have e : l[n]? = some l[n] := List.getElem?_eq_getElem (by omega)
      obtain ⟨h1, h2⟩ := h n _ e
      rw [List.range_succ, List.take_add_one, e, List.filter_append, List.filter_append, List.map_append, List.map_append, ih (by omega)]
      congr 1
      cases q : p l[n] with
      | true => rw [q] at h1; simp [h1, h2, q]
      | false => rw [q] at h1; simp [h1, q]
  have := go l.length (Nat.le_refl _)
  rwa [List.take_length] at this
/-- .. that is walked as it stands -/
theorem lc_seq {K : PySem.W.Frag} {S : Addr → Prop} {H : Hp} {σ : L2.St} {t te : TE} {sl : Nat} {vs : List Nat} {Q : VK} {b : Bool} {ds : List PyData} (f : Nat → PyData) (kn : Kn S H)
    (hev : ∀ Q : VK, (∀ u H1, Same H H1 → Dp K (off S H1) u (sq b ds) → Q u H1) → t σ H Q) (hn : ds.length ≤ 100000) (hw : ∀ x, wipe ((wipe σ vs).set sl (some x)) vs = wipe σ vs)
    (body : ∀ j x d H1 S', ds[j]? = some d → Same H H1 → Kn S' H1 → Dp K (off S' H1) x d → (∀ a, S a → S' a) → Same (off S H) (off S' H1) → ∀ Q : VK, (∀ y H', Same H1 H' → Dp K (off S' H') y (f j) → Q y H') → te ((wipe σ vs).set sl (some x)) H1 Q)
    (done : ∀ D H1 ys, H D = none → Same H H1 → H1 D = some (.lst ys) → Dp K (off S H1) (.ref D) (.list ((List.range ds.length).map f)) → Q (.ref D) H1) :
    tLc (fun σ H R => iList K t σ H R ∨ iTup K t σ H R) (gName sl) tYes te vs σ H Q :=
  it_any hev fun J xs H1 s ha w => lc_dat f w ha (kn.same s) hn hw (fun j x d H2 S' dj s2 kn2 dx hS hoff Q q => body j x d H2 S' dj (s.trans s2) kn2 dx hS ((off_same s).trans hoff) Q q)
    fun D H2 ys hD s2 hd h => done D H2 ys (s.free hD) (s.trans s2) hd h

theorem t_yes {σ : L2.St} {H : Hp} {A B : Hp → Prop} (h : A H) : tYes σ H fun b H' => if b = true then A H' else B H' := iteT (A := A H) (B := B H) h
/-- any walk, a step a turn -/
theorem wlk {J : It} {n : Nat} {G : Hp → Prop} {Y : Nat → Hp → V → Hp → Prop} (w : Walk J n G Y) {H0 : Hp} {Dn : Hp → Prop} (Stp : V → Hp → (Hp → Prop) → Prop) (Pv : Nat → Hp → Prop) (h0 : Pv 0 H0) (hG : ∀ i H, i ≤ n → Pv i H → G H)
    (hs : ∀ i x H H', i < n → Pv i H → Y i H x H' → Stp x H' (Pv (i + 1))) (hd : ∀ H, Pv n H → Dn H) :
    ∃ W : Nat → Nat → Hp → Prop, (∃ m, W 0 m H0) ∧ ∀ i m H, W i m H →
      (J.stop i H ∧ Dn H) ∨ (J.go i H ∧ ∃ Nx : Hp → Prop, (∀ H', Nx H' → ∃ m', m' < m ∧ W (i + 1) m' H') ∧ ∀ x H', J.yld i H x H' → Stp x H' Nx) := by
  refine ⟨fun i m H => m = n - i ∧ i ≤ n ∧ Pv i H, ⟨n, by simp, Nat.zero_le _, h0⟩, ?_⟩
  rintro i m H ⟨rfl, hi, p⟩
  by_cases q : i < n
  · exact .inr ⟨w.goes i H q (hG i H hi p), Pv (i + 1), fun H' p' => ⟨n - (i + 1), by omega, rfl, q, p'⟩, fun x H' y => hs i x H H' q p (w.yields i H x H' q (hG i H hi p) y)⟩
  · have e : i = n := by omega
    subst e
    exact .inl ⟨w.stops H (hG _ H hi p), hd H p⟩
theorem flat_take {f : Nat → List PyData} (n : Nat) : (List.range (n + 1)).flatMap f = (List.range n).flatMap f ++ f n := by
  rw [List.range_succ, List.flatMap_append]; simp
/-- [y for x in xs for y in e], e a list of data -/
theorem lc2_seq {K : PySem.W.Frag} {S : Addr → Prop} {H : Hp} {σ : L2.St} {t t2 : TE} {s1 s2 : Nat} {vs vs1 : List Nat} {Q : VK} {b : Bool} {ds : List PyData} (f : Nat → List PyData) (kn : Kn S H)
    (hev : ∀ Q : VK, (∀ u H1, Same H H1 → Dp K (off S H1) u (sq b ds) → Q u H1) → t σ H Q) (hn : ∀ n, n ≤ ds.length → ((List.range n).flatMap f).length ≤ 100000) (hw : ∀ x, wipe ((wipe σ vs).set s1 (some x)) vs = wipe σ vs)
    (hw1 : ∀ x y, wipe ((wipe ((wipe σ vs).set s1 (some x)) vs1).set s2 (some y)) vs1 = wipe ((wipe σ vs).set s1 (some x)) vs1) (hg : ∀ x y, ((wipe ((wipe σ vs).set s1 (some x)) vs1).set s2 (some y))[s2]? = some (some y))
    (body : ∀ j x d H1 S', ds[j]? = some d → Same H H1 → Kn S' H1 → Dp K (off S' H1) x d → (∀ a, S a → S' a) → ∀ Q : VK, (∀ y H', Same H1 H' → Dp K (off S' H') y (.list (f j)) → Q y H') → t2 ((wipe σ vs).set s1 (some x)) H1 Q)
    (done : ∀ D H1 ys, H D = none → Same H H1 → H1 D = some (.lst ys) → Dp K (off S H1) (.ref D) (.list ((List.range ds.length).flatMap f)) → Q (.ref D) H1) :
    tLc2 (fun σ H R => iList K t σ H R ∨ iTup K t σ H R) (gName s1) tYes (fun σ H R => iList K t2 σ H R ∨ iTup K t2 σ H R) (gName s2) tYes (tVar s2) vs vs1 σ H Q := by
  refine it_any hev fun J xs H1 s ha w D hD => ?_
  have ln := dpa_len ha
  have kn1 := kn.same s
  refine wlk w (fun x H' Nx => gName s1 x (wipe σ vs) H' _) (fun i H' => ∃ ys, DpAll K (off (plus S D) H') ys ((List.range i).flatMap f) ∧ Same H1 H' ∧ H' D = some (.lst ys)) ⟨[], .nil, same_new hD, upd_same⟩ (fun i H' _ ⟨_, _, z, _⟩ => off_sub.trans z) ?_ ?_
  · rintro i x H2 H3 hi ⟨ys, py, z, hd⟩ ⟨rfl, xi⟩
    obtain ⟨d, dj, dx⟩ := dpa_at ha xi
    refine ⟨hw x, t_yes ?_⟩
    refine it_any (b := false) (S := plus S D) (ds := f i) (fun Q q => body i x d H3 (plus S D) dj (s.trans z) ((kn1.same z).plus (some_ne hd)) (dp_same (off_plus hD z) _ _ dx) (fun _ h => .inl h) Q q) fun J1 zs H4 s4 hz w1 => ?_
    have lz := dpa_len hz
    refine wlk w1 (fun y H' Nx => gName s2 y (wipe ((wipe σ vs).set s1 (some x)) vs1) H' fun σ3 H5 => wipe σ3 vs1 = wipe ((wipe σ vs).set s1 (some x)) vs1 ∧ tYes σ3 H5 fun b H6 => if b = true then tVar s2 σ3 H6 fun y H7 => ∃ acc, H7 D = some (.lst acc) ∧ acc.length < sizeLine ∧ Nx (upd H7 D (.lst (acc ++ [y]))) else Nx H6) (fun j H' => ∃ ys', DpAll K (off (plus S D) H') ys' ((List.range i).flatMap f ++ (f i).take j) ∧ SameBut D H4 H' ∧ H' D = some (.lst ys')) ⟨ys, by simpa using dpa_same (off_same s4) _ _ py, sbut (Same.refl _), s4 _ _ hd⟩ (fun j H' _ ⟨_, _, z', _⟩ => fun c o h => z' c o (fun e => (off_some h).1 (.inr e)) (off_some h).2) ?_ fun H5 h5 => ?_
    · rintro j y H5 H6 hj ⟨ys', py', z', hd'⟩ ⟨rfl, yj⟩
      obtain ⟨e, ej, de⟩ := dpa_at hz yj
      refine ⟨hw1 x y, t_yes ?_⟩
      have hl : ys'.length ≤ 100000 := by
        have h1 := dpa_len py'
        have h2 := hn (i + 1) (by omega)
        rw [flat_take, List.length_append] at h2
        rw [h1, List.length_append, List.length_take]
        omega
      refine ⟨y, hg x y, ys', hd', Nat.lt_of_le_of_lt hl (by decide), ys' ++ [y], ?_, bmut z', upd_same⟩
      rw [off_mut (show plus S D D from .inr rfl), List.take_add_one, ej, ← List.append_assoc]
      exact dpa_app py' (.cons (dp_same (off_but z') _ _ de) .nil)
    · obtain ⟨ys', py', z', hd'⟩ := h5
      refine ⟨ys', ?_, ?_, hd'⟩
      · rw [flat_take]
        rwa [List.take_of_length_le (by omega)] at py'
      · intro c o h
        exact z' c o (ne_of_none h hD) (s4 c o (z c o h))
  · rintro H2 ⟨ys, py, z, hd⟩
    refine done D H2 ys (s.free hD) (s.trans z) hd (dp_lst (kn1.new hD) hd ?_)
    rw [← ln]
    exact dpa_same (off_fin (D := D)) _ _ py
end Kh

set_option maxRecDepth 100000
set_option maxHeartbeats 4000000
namespace PySem
open PySem.AutoSeq1
theorem kh_extend_tuple (l : Addr) (items : Array Value) (n : Nat) (b : Addr) (items2 : Array Value) (n2 : Nat) (dd : Option Addr) (sl : Array (Option Value)) (hs0 : ¬(!items.isEmpty && Builtin.List.listTooLong (items.size + items2.size)) = true) (hs1 : items.size ≤ sizeLine)
    (hs2 : items.size + items2.size ≤ sizeLine + 1) :
    Meets (Builtin.«list.extend» ⟨[.ref l, .ref b], []⟩) (fun _ R s => s.heap.get? l = some { cls := .type "list", dict := none, data := .seq items n, slots := #[] } ∧ s.heap.get? b = some { cls := .type "tuple", dict := dd, data := .seq items2 n2, slots := sl } ∧
      R (.ok (.ret Value.none)) { s with heap := s.heap.update l (Obj.mapSeq fun x => x ++ items2), toks := s.toks }) :=
  .of_wp fun prog w A R s h => by
    obtain ⟨hp, g, d, tk, os⟩ := s
    obtain ⟨hl, hb, h⟩ := h
    have f1 := idx_int; have f2 := sub_tuple_tuple; have f3 := sub_list_list; have f4 := sub_tuple_list; have f5 := sub_list_tuple
    have hz' : (items ++ items2).size ≤ sizeLine + 1 := by rw [Array.size_append]; exact hs2
    wp_walk using (wpAny_updateSeq hl rfl (hz := hs1) (_hz' := hz')), wpAny_loadPart' hl, wpAny_loadPart' hb
    exact ⟨_, rfl, h⟩
theorem kh_extend_list (l : Addr) (items : Array Value) (n : Nat) (b : Addr) (items2 : Array Value) (n2 : Nat) (dd : Option Addr) (sl : Array (Option Value)) (hs0 : ¬(!items.isEmpty && Builtin.List.listTooLong (items.size + items2.size)) = true) (hs1 : items.size ≤ sizeLine)
    (hs2 : items.size + items2.size ≤ sizeLine + 1) :
    Meets (Builtin.«list.extend» ⟨[.ref l, .ref b], []⟩) (fun _ R s => s.heap.get? l = some { cls := .type "list", dict := none, data := .seq items n, slots := #[] } ∧ s.heap.get? b = some { cls := .type "list", dict := dd, data := .seq items2 n2, slots := sl } ∧
      R (.ok (.ret Value.none)) { s with heap := s.heap.update l (Obj.mapSeq fun x => x ++ items2), toks := s.toks }) :=
  .of_wp fun prog w A R s h => by
    obtain ⟨hp, g, d, tk, os⟩ := s
    obtain ⟨hl, hb, h⟩ := h
    have f1 := idx_int; have f2 := sub_tuple_tuple; have f3 := sub_list_list; have f4 := sub_tuple_list; have f5 := sub_list_tuple
    have hz' : (items ++ items2).size ≤ sizeLine + 1 := by rw [Array.size_append]; exact hs2
    wp_walk using (wpAny_updateSeq hl rfl (hz := hs1) (_hz' := hz')), wpAny_loadPart' hl, wpAny_loadPart' hb
    exact ⟨_, rfl, h⟩
end PySem
namespace Kh
open PySem PySem.Spec PyProof.Rows L2
/-- xs.extend(a list or a tuple) -/
def rExtS (K : PySem.W.Frag) : V → List V → Hp → VK → Prop := fun x vs H Q => ∃ l b xs zs, x = .ref l ∧ vs = [.ref b] ∧ H l = some (.lst xs) ∧ (SqL K H b zs ∨ SqT K H b zs) ∧ xs.length + zs.length ≤ sizeLine ∧ Q .non (upd H l (.lst (xs ++ zs)))
theorem mt_extS {X : Cx} : MtM X "list.extend" (rExtS X.K) := by
  intro pins s ρ H x vs v us Q I rx rv h
  obtain ⟨l, b, xs, zs, rfl, rfl, hH, hB, hz, q⟩ := h
  cases rx
  obtain ⟨u, rfl, ru⟩ := rv.one
  cases ru
  obtain ⟨z, its, n, r, hl, e⟩ := I.lstM hH
  have fin : ∀ (its2 : List Value), Vals zs its2 → EP X pins ρ Q Value.none { s with heap := s.heap.update l (Obj.mapSeq fun x => x ++ its2.toArray), toks := s.toks } := fun its2 r2 =>
    ⟨.non, _, I.lset (its' := its ++ its2) hH e (by simp) (r.append r2) (by rw [List.length_append]; omega), rfl, q⟩
  have door : ∀ its2 : List Value, Vals zs its2 → ¬ (!its.toArray.isEmpty && Builtin.List.listTooLong (its.toArray.size + its2.toArray.size)) = true := fun its2 r2 => by
    have h1 : its.toArray.size + its2.toArray.size ≤ sizeLine := by rw [List.size_toArray, List.size_toArray, ← hl, ← r2.length]; exact hz
    rw [notLongL h1, Bool.and_false]; exact Bool.false_ne_true
  rcases hB with hB | hB
  · obtain ⟨its2, r2, ⟨⟨oc, od, ot, os⟩, n2, e2, h1, h2, h3⟩, _⟩ := I.list hB
    simp only at h1 h2 h3
    subst h1; subst h2; subst h3
    refine call_meets F.slot_list_extend ⟨_, e, rfl⟩ F.entry_list_extend (F.args_list_extend_2 _ _) (kh_extend_list l its.toArray n b its2.toArray n2 none os (door its2 r2) (by rw [List.size_toArray]; omega) ?_) ⟨e, e2, fin its2 r2⟩
    rw [List.size_toArray, List.size_toArray, ← hl, ← r2.length]; omega
  · obtain ⟨its2, r2, ⟨⟨oc, od, ot, os⟩, e2, h1, n2, h3⟩, _⟩ := I.tuple hB
    simp only at h1 h3
    subst h1; subst h3
    refine call_meets F.slot_list_extend ⟨_, e, rfl⟩ F.entry_list_extend (F.args_list_extend_2 _ _) (kh_extend_tuple l its.toArray n b its2.toArray n2 od os (door its2 r2) (by rw [List.size_toArray]; omega) ?_) ⟨e, e2, fin its2 r2⟩
    rw [List.size_toArray, List.size_toArray, ← hl, ← r2.length]; omega
end Kh

set_option maxRecDepth 100000
set_option maxHeartbeats 1000000
/-! the rules with the written part named (within a comprehension it is the body's) -/
namespace Kh
open PySem PySem.Spec PyProof.Rows L2
section
variable {X : Cx} {K : PySem.W.Frag}
theorem k_ix (h : X.K = K := by rfl) : IxR X (rIx K) := by subst h; exact ix_seq
theorem k_isi (h : X.K = K := by rfl) : CallR X (.builtin "isinstance") (rIsi K) := by subst h; exact call_isi
theorem k_isiT (h : X.K = K := by rfl) : CallR X (.builtin "isinstance") (rIsiT K) := by subst h; exact call_isiT
theorem k_len (h : X.K = K := by rfl) : CallR X (.builtin "len") (rLen K) := by subst h; exact call_lenR
theorem k_tup (h : X.K = K := by rfl) : CallR X (.type "tuple") (rTupOf K) := by subst h; exact call_tupR
theorem k_list (h : X.K = K := by rfl) : CallR X (.type "list") (rListOf K) := by subst h; exact call_listR
theorem k_all (hc : X.calm = true) (h : X.K = K := by rfl) : CallR X (.builtin "all") (rAll K) := by subst h; exact cr_all hc
theorem k_any (hc : X.calm = true) (h : X.K = K := by rfl) : CallR X (.builtin "any") (rAny K) := by subst h; exact cr_any hc
theorem k_max (hc : X.calm = true) (h : X.K = K := by rfl) : CallR X (.builtin "max") (rMax K) := by subst h; exact cr_max hc
theorem k_in (h : X.K = K := by rfl) : OpR X (compareOp .In) (rIn K false) := by subst h; exact op_in_seq
theorem k_notIn (h : X.K = K := by rfl) : OpR X (compareOp .NotIn) (rIn K true) := by subst h; exact op_notIn_seq
theorem k_eqD (hu : X.A.units + 64 < cLine) (h : X.K = K := by rfl) : OpR X (compareOp .Eq) (rEqD K) := by subst h; exact op_eqD hu
theorem k_neD (hu : X.A.units + 64 < cLine) (h : X.K = K := by rfl) : OpR X (compareOp .NotEq) (rNeD K) := by subst h; exact op_neD hu
theorem k_sl (h : X.K = K := by rfl) : SlR X (rSlL K) := by subst h; exact sl_list
theorem k_ext (h : X.K = K := by rfl) : MtM X "list.extend" (rExtS K) := by subst h; exact mt_extS
theorem k_pi {tg e : Expr} {t : TE} (he : PE X e t) (h : X.K = K := by rfl) : PI X tg e (fun σ H R => iList K t σ H R ∨ iTup K t σ H R) := by subst h; exact pi_any he
theorem k_fld {e : Expr} {f : Str} {pos : Pos} {t : TE} (he : PE X e t) (hb : attributeBase e f X.env (eval e X.env) = eval e X.env) (h : X.K = K := by rfl) : PE X (.Attribute e f pos) (tFld K t f) := by subst h; exact pe_fld he hb
end
end Kh

set_option maxRecDepth 100000
set_option maxHeartbeats 4000000
namespace K31
open PySem PySem.Spec PyProof.Rows L2 Kh
def top (i : Nat) : Stmt := PySem.Challenge.pw_oneshelf_k44_whole_thresholds_and_shower.main.body.getD i (.Pass ⟨0, 0, 0, 0⟩)
abbrev is_integer_s : Stmt := top 1
abbrev is_integer_N : List Str := ["value"]
theorem sc_is_integer : FnScope is_integer_N ["value"] (defScope is_integer_s) := ⟨rfl, rfl, rfl, by decide +kernel, rfl, by decide +kernel, by decide +kernel⟩
abbrev is_count_s : Stmt := top 2
abbrev is_count_N : List Str := ["value"]
theorem sc_is_count : FnScope is_count_N ["value"] (defScope is_count_s) := ⟨rfl, rfl, rfl, by decide +kernel, rfl, by decide +kernel, by decide +kernel⟩
abbrev is_list_s : Stmt := top 3
abbrev is_list_N : List Str := ["value"]
theorem sc_is_list : FnScope is_list_N ["value"] (defScope is_list_s) := ⟨rfl, rfl, rfl, by decide +kernel, rfl, by decide +kernel, by decide +kernel⟩
abbrev is_number_below_s : Stmt := top 4
abbrev is_number_below_N : List Str := ["value", "many"]
theorem sc_is_number_below : FnScope is_number_below_N ["value", "many"] (defScope is_number_below_s) := ⟨rfl, rfl, rfl, by decide +kernel, rfl, by decide +kernel, by decide +kernel⟩
abbrev is_row_s : Stmt := top 15
abbrev is_row_N : List Str := ["value", "size", "part"]
theorem sc_is_row : FnScope is_row_N ["value", "size"] (defScope is_row_s) := ⟨rfl, rfl, rfl, by decide +kernel, rfl, by decide +kernel, by decide +kernel⟩
abbrev Table_init_s : Stmt := inClass (top 16) 0
abbrev Table_init_N : List Str := ["self", "rows", "position", "row"]
theorem sc_Table_init : FnScope Table_init_N ["self", "rows"] (defScope Table_init_s) := ⟨rfl, rfl, rfl, by decide +kernel, rfl, by decide +kernel, by decide +kernel⟩
abbrev Table_rows_s : Stmt := inClass (top 16) 1
abbrev Table_rows_N : List Str := ["self", "row"]
theorem sc_Table_rows : FnScope Table_rows_N ["self"] (defScope Table_rows_s) := ⟨rfl, rfl, rfl, by decide +kernel, rfl, by decide +kernel, by decide +kernel⟩
abbrev Table_at_s : Stmt := inClass (top 16) 2
abbrev Table_at_N : List Str := ["self", "x", "y"]
theorem sc_Table_at : FnScope Table_at_N ["self", "x", "y"] (defScope Table_at_s) := ⟨rfl, rfl, rfl, by decide +kernel, rfl, by decide +kernel, by decide +kernel⟩
abbrev Table_len_s : Stmt := inClass (top 16) 3
abbrev Table_len_N : List Str := ["self"]
theorem sc_Table_len : FnScope Table_len_N ["self"] (defScope Table_len_s) := ⟨rfl, rfl, rfl, by decide +kernel, rfl, by decide +kernel, by decide +kernel⟩
abbrev Table_eq_s : Stmt := inClass (top 16) 4
abbrev Table_eq_N : List Str := ["self", "other"]
theorem sc_Table_eq : FnScope Table_eq_N ["self", "other"] (defScope Table_eq_s) := ⟨rfl, rfl, rfl, by decide +kernel, rfl, by decide +kernel, by decide +kernel⟩
abbrev check_value_s : Stmt := top 17
abbrev check_value_N : List Str := ["table", "value"]
theorem sc_check_value : FnScope check_value_N ["table", "value"] (defScope check_value_s) := ⟨rfl, rfl, rfl, by decide +kernel, rfl, by decide +kernel, by decide +kernel⟩
abbrev check_values_s : Stmt := top 18
abbrev check_values_N : List Str := ["table", "values", "fewest", "position", "value"]
theorem sc_check_values : FnScope check_values_N ["table", "values", "fewest"] (defScope check_values_s) := ⟨rfl, rfl, rfl, by decide +kernel, rfl, by decide +kernel, by decide +kernel⟩
abbrev parting_s : Stmt := top 19
abbrev parting_N : List Str := ["table", "rows", "values", "x", "y", "z"]
theorem sc_parting : FnScope parting_N ["table"] (defScope parting_s) := ⟨rfl, rfl, rfl, by decide +kernel, rfl, by decide +kernel, by decide +kernel⟩
abbrev melts_s : Stmt := top 20
abbrev melts_N : List Str := ["table"]
theorem sc_melts : FnScope melts_N ["table"] (defScope melts_s) := ⟨rfl, rfl, rfl, by decide +kernel, rfl, by decide +kernel, by decide +kernel⟩
abbrev check_melting_s : Stmt := top 22
abbrev check_melting_N : List Str := ["table"]
theorem sc_check_melting : FnScope check_melting_N ["table"] (defScope check_melting_s) := ⟨rfl, rfl, rfl, by decide +kernel, rfl, by decide +kernel, by decide +kernel⟩
abbrev joined_s : Stmt := top 23
abbrev joined_N : List Str := ["table", "values", "found", "value"]
theorem sc_joined : FnScope joined_N ["table", "values"] (defScope joined_s) := ⟨rfl, rfl, rfl, by decide +kernel, rfl, by decide +kernel, by decide +kernel⟩
abbrev is_within_s : Stmt := top 24
abbrev is_within_N : List Str := ["table", "one", "other"]
theorem sc_is_within : FnScope is_within_N ["table", "one", "other"] (defScope is_within_s) := ⟨rfl, rfl, rfl, by decide +kernel, rfl, by decide +kernel, by decide +kernel⟩
abbrev clash_s : Stmt := top 25
abbrev clash_N : List Str := ["table"]
theorem sc_clash : FnScope clash_N ["table"] (defScope clash_s) := ⟨rfl, rfl, rfl, by decide +kernel, rfl, by decide +kernel, by decide +kernel⟩
abbrev check_thresholds_s : Stmt := top 26
abbrev check_thresholds_N : List Str := ["table", "thresholds", "position", "value"]
theorem sc_check_thresholds : FnScope check_thresholds_N ["table", "thresholds"] (defScope check_thresholds_s) := ⟨rfl, rfl, rfl, by decide +kernel, rfl, by decide +kernel, by decide +kernel⟩
abbrev first_read_s : Stmt := top 27
abbrev first_read_N : List Str := ["table", "thresholds", "shower", "state", "part", "inner", "value"]
theorem sc_first_read : FnScope first_read_N ["table", "thresholds", "shower"] (defScope first_read_s) := ⟨rfl, rfl, rfl, by decide +kernel, rfl, by decide +kernel, by decide +kernel⟩
abbrev read_of_s : Stmt := top 28
abbrev read_of_N : List Str := ["table", "thresholds", "shower"]
theorem sc_read_of : FnScope read_of_N ["table", "thresholds", "shower"] (defScope read_of_s) := ⟨rfl, rfl, rfl, by decide +kernel, rfl, by decide +kernel, by decide +kernel⟩
abbrev two_below_s : Stmt := top 29
abbrev two_below_N : List Str := ["table", "thresholds", "one", "other"]
theorem sc_two_below : FnScope two_below_N ["table", "thresholds"] (defScope two_below_s) := ⟨rfl, rfl, rfl, by decide +kernel, rfl, by decide +kernel, by decide +kernel⟩
abbrev are_firm_s : Stmt := top 30
abbrev are_firm_N : List Str := ["table", "thresholds"]
theorem sc_are_firm : FnScope are_firm_N ["table", "thresholds"] (defScope are_firm_s) := ⟨rfl, rfl, rfl, by decide +kernel, rfl, by decide +kernel, by decide +kernel⟩
abbrev unlike_showers_s : Stmt := top 31
abbrev unlike_showers_N : List Str := ["table", "thresholds", "found"]
theorem sc_unlike_showers : FnScope unlike_showers_N ["table", "thresholds"] (defScope unlike_showers_s) := ⟨rfl, rfl, rfl, by decide +kernel, rfl, by decide +kernel, by decide +kernel⟩
abbrev is_shower_s : Stmt := top 32
abbrev is_shower_N : List Str := ["table", "value", "part"]
theorem sc_is_shower : FnScope is_shower_N ["table", "value"] (defScope is_shower_s) := ⟨rfl, rfl, rfl, by decide +kernel, rfl, by decide +kernel, by decide +kernel⟩
abbrev are_unlike_showers_s : Stmt := top 33
abbrev are_unlike_showers_N : List Str := ["table", "thresholds", "value"]
theorem sc_are_unlike_showers : FnScope are_unlike_showers_N ["table", "thresholds", "value"] (defScope are_unlike_showers_s) := ⟨rfl, rfl, rfl, by decide +kernel, rfl, by decide +kernel, by decide +kernel⟩
abbrev _law_pot_s : Stmt := top 35
abbrev _law_pot_N : List Str := ["_law_script", "_law_k", "_law_cell"]
theorem sc__law_pot : FnScope _law_pot_N ["_law_script", "_law_k"] (defScope _law_pot_s) := ⟨rfl, rfl, rfl, by decide +kernel, rfl, by decide +kernel, by decide +kernel⟩
abbrev _law_draw_s : Stmt := top 36
abbrev _law_draw_N : List Str := ["_law_pot_here", "_law_many", "_law_digit"]
theorem sc__law_draw : FnScope _law_draw_N ["_law_pot_here", "_law_many"] (defScope _law_draw_s) := ⟨rfl, rfl, rfl, by decide +kernel, rfl, by decide +kernel, by decide +kernel⟩
abbrev _law_pick_s : Stmt := top 37
abbrev _law_pick_N : List Str := ["_law_pot_here", "_law_some"]
theorem sc__law_pick : FnScope _law_pick_N ["_law_pot_here", "_law_some"] (defScope _law_pick_s) := ⟨rfl, rfl, rfl, by decide +kernel, rfl, by decide +kernel, by decide +kernel⟩
abbrev _law_mixed_s : Stmt := top 38
abbrev _law_mixed_N : List Str := ["_law_pot_here", "_law_some", "_law_left", "_law_found"]
theorem sc__law_mixed : FnScope _law_mixed_N ["_law_pot_here", "_law_some"] (defScope _law_mixed_s) := ⟨rfl, rfl, rfl, by decide +kernel, rfl, by decide +kernel, by decide +kernel⟩
abbrev _law_lots_s : Stmt := top 39
abbrev _law_lots_N : List Str := ["_law_pot_here", "_law_found", "_law_turn", "_law_fresh", "_law_more", "_law_some", "_law_one", "_law_at"]
theorem sc__law_lots : FnScope _law_lots_N ["_law_pot_here"] (defScope _law_lots_s) := ⟨rfl, rfl, rfl, by decide +kernel, rfl, by decide +kernel, by decide +kernel⟩
abbrev _law_melting_s : Stmt := top 40
abbrev _law_melting_N : List Str := ["_law_pot_here", "_law_lots_here", "_law_one", "_law_other"]
theorem sc__law_melting : FnScope _law_melting_N ["_law_pot_here"] (defScope _law_melting_s) := ⟨rfl, rfl, rfl, by decide +kernel, rfl, by decide +kernel, by decide +kernel⟩
abbrev _law_join_s : Stmt := top 43
abbrev _law_join_N : List Str := ["_law_rows", "_law_values", "_law_found", "_law_value"]
theorem sc__law_join : FnScope _law_join_N ["_law_rows", "_law_values"] (defScope _law_join_s) := ⟨rfl, rfl, rfl, by decide +kernel, rfl, by decide +kernel, by decide +kernel⟩
abbrev _law_read_s : Stmt := top 50
abbrev _law_read_N : List Str := ["_law_rows", "_law_thresholds", "_law_shower", "_law_here", "_law_value", "_law_found", "_law_one"]
theorem sc__law_read : FnScope _law_read_N ["_law_rows", "_law_thresholds", "_law_shower"] (defScope _law_read_s) := ⟨rfl, rfl, rfl, by decide +kernel, rfl, by decide +kernel, by decide +kernel⟩
abbrev _law_is_shower_s : Stmt := top 51
abbrev _law_is_shower_N : List Str := ["_law_rows", "_law_thing", "_law_one"]
theorem sc__law_is_shower : FnScope _law_is_shower_N ["_law_rows", "_law_thing"] (defScope _law_is_shower_s) := ⟨rfl, rfl, rfl, by decide +kernel, rfl, by decide +kernel, by decide +kernel⟩
abbrev _law_are_unlike_s : Stmt := top 52
abbrev _law_are_unlike_N : List Str := ["_law_rows", "_law_clash", "_law_thresholds", "_law_thing", "_law_one", "_law_other", "_law_part"]
theorem sc__law_are_unlike : FnScope _law_are_unlike_N ["_law_rows", "_law_clash", "_law_thresholds", "_law_thing"] (defScope _law_are_unlike_s) := ⟨rfl, rfl, rfl, by decide +kernel, rfl, by decide +kernel, by decide +kernel⟩
abbrev _law_two_s : Stmt := top 53
abbrev _law_two_N : List Str := ["_law_pot_here", "_law_rows", "_law_some", "_law_turn"]
theorem sc__law_two : FnScope _law_two_N ["_law_pot_here", "_law_rows"] (defScope _law_two_s) := ⟨rfl, rfl, rfl, by decide +kernel, rfl, by decide +kernel, by decide +kernel⟩
abbrev _law_firm_right_s : Stmt := top 54
abbrev _law_firm_right_N : List Str := ["_law_pot_here", "_law_table_here", "_law_rows", "_law_clash", "_law_thresholds", "_law_is_firm", "_law_at", "_law_one", "_law_told", "_law_found", "_law_some", "_law_things", "_law_other", "_law_truths", "_law_thing", "_law_due", "_law_part", "_law_turn", "_law_value"]
theorem sc__law_firm_right : FnScope _law_firm_right_N ["_law_pot_here", "_law_table_here", "_law_rows", "_law_clash", "_law_thresholds"] (defScope _law_firm_right_s) := ⟨rfl, rfl, rfl, by decide +kernel, rfl, by decide +kernel, by decide +kernel⟩
abbrev _law_right_s : Stmt := top 55
abbrev _law_right_N : List Str := ["_law_pot_here", "_law_rows", "_law_table_here", "_law_span", "_law_clash", "_law_apart", "_law_value", "_law_thresholds", "_law_turn", "_law_one", "_law_other", "_law_due", "_law_told"]
theorem sc__law_right : FnScope _law_right_N ["_law_pot_here"] (defScope _law_right_s) := ⟨rfl, rfl, rfl, by decide +kernel, rfl, by decide +kernel, by decide +kernel⟩
abbrev law_s : Stmt := top 56
abbrev law_N : List Str := ["_law_script", "_law_k"]
theorem sc_law : FnScope law_N ["_law_script"] (defScope law_s) := ⟨rfl, rfl, rfl, by decide +kernel, rfl, by decide +kernel, by decide +kernel⟩
structure Txt (K : PySem.W.Frag) (mg : Str → Option Value) (a : Nat → Addr) (fd : Nat → FuncData) (C : Addr) (tk : Nat → Tok) : Prop where
  F_is_integer : Fun K "is_integer" "is_integer" is_integer_s (a 0) (fd 0)
  m_is_integer : mg "is_integer" = some (.ref (a 0))
  b_is_integer : Binds K (fd 0) ["value"] []
  F_is_count : Fun K "is_count" "is_count" is_count_s (a 1) (fd 1)
  m_is_count : mg "is_count" = some (.ref (a 1))
  b_is_count : Binds K (fd 1) ["value"] []
  F_is_list : Fun K "is_list" "is_list" is_list_s (a 2) (fd 2)
  m_is_list : mg "is_list" = some (.ref (a 2))
  b_is_list : Binds K (fd 2) ["value"] []
  F_is_number_below : Fun K "is_number_below" "is_number_below" is_number_below_s (a 3) (fd 3)
  m_is_number_below : mg "is_number_below" = some (.ref (a 3))
  b_is_number_below : Binds K (fd 3) ["value", "many"] []
  F_is_row : Fun K "is_row" "is_row" is_row_s (a 4) (fd 4)
  m_is_row : mg "is_row" = some (.ref (a 4))
  b_is_row : Binds K (fd 4) ["value", "size"] []
  F_Table_init : Fun K "__init__" "Table.__init__" Table_init_s (a 5) (fd 5)
  b_Table_init : Binds K (fd 5) ["self", "rows"] []
  F_Table_rows : Fun K "rows" "Table.rows" Table_rows_s (a 6) (fd 6)
  b_Table_rows : Binds K (fd 6) ["self"] []
  F_Table_at : Fun K "at" "Table.at" Table_at_s (a 7) (fd 7)
  b_Table_at : Binds K (fd 7) ["self", "x", "y"] []
  F_Table_len : Fun K "__len__" "Table.__len__" Table_len_s (a 8) (fd 8)
  b_Table_len : Binds K (fd 8) ["self"] []
  F_Table_eq : Fun K "__eq__" "Table.__eq__" Table_eq_s (a 9) (fd 9)
  b_Table_eq : Binds K (fd 9) ["self", "other"] []
  F_check_value : Fun K "check_value" "check_value" check_value_s (a 10) (fd 10)
  m_check_value : mg "check_value" = some (.ref (a 10))
  b_check_value : Binds K (fd 10) ["table", "value"] []
  F_check_values : Fun K "check_values" "check_values" check_values_s (a 11) (fd 11)
  m_check_values : mg "check_values" = some (.ref (a 11))
  b_check_values : Binds K (fd 11) ["table", "values", "fewest"] []
  F_parting : Fun K "parting" "parting" parting_s (a 12) (fd 12)
  m_parting : mg "parting" = some (.ref (a 12))
  b_parting : Binds K (fd 12) ["table"] []
  F_melts : Fun K "melts" "melts" melts_s (a 13) (fd 13)
  m_melts : mg "melts" = some (.ref (a 13))
  b_melts : Binds K (fd 13) ["table"] []
  F_check_melting : Fun K "check_melting" "check_melting" check_melting_s (a 14) (fd 14)
  m_check_melting : mg "check_melting" = some (.ref (a 14))
  b_check_melting : Binds K (fd 14) ["table"] []
  F_joined : Fun K "joined" "joined" joined_s (a 15) (fd 15)
  m_joined : mg "joined" = some (.ref (a 15))
  b_joined : Binds K (fd 15) ["table", "values"] []
  F_is_within : Fun K "is_within" "is_within" is_within_s (a 16) (fd 16)
  m_is_within : mg "is_within" = some (.ref (a 16))
  b_is_within : Binds K (fd 16) ["table", "one", "other"] []
  F_clash : Fun K "clash" "clash" clash_s (a 17) (fd 17)
  m_clash : mg "clash" = some (.ref (a 17))
  b_clash : Binds K (fd 17) ["table"] []
  F_check_thresholds : Fun K "check_thresholds" "check_thresholds" check_thresholds_s (a 18) (fd 18)
  m_check_thresholds : mg "check_thresholds" = some (.ref (a 18))
  b_check_thresholds : Binds K (fd 18) ["table", "thresholds"] []
  F_first_read : Fun K "first_read" "first_read" first_read_s (a 19) (fd 19)
  m_first_read : mg "first_read" = some (.ref (a 19))
  b_first_read : Binds K (fd 19) ["table", "thresholds", "shower"] []
  F_read_of : Fun K "read_of" "read_of" read_of_s (a 20) (fd 20)
  m_read_of : mg "read_of" = some (.ref (a 20))
  b_read_of : Binds K (fd 20) ["table", "thresholds", "shower"] []
  F_two_below : Fun K "two_below" "two_below" two_below_s (a 21) (fd 21)
  m_two_below : mg "two_below" = some (.ref (a 21))
  b_two_below : Binds K (fd 21) ["table", "thresholds"] []
  F_are_firm : Fun K "are_firm" "are_firm" are_firm_s (a 22) (fd 22)
  m_are_firm : mg "are_firm" = some (.ref (a 22))
  b_are_firm : Binds K (fd 22) ["table", "thresholds"] []
  F_unlike_showers : Fun K "unlike_showers" "unlike_showers" unlike_showers_s (a 23) (fd 23)
  m_unlike_showers : mg "unlike_showers" = some (.ref (a 23))
  b_unlike_showers : Binds K (fd 23) ["table", "thresholds"] []
  F_is_shower : Fun K "is_shower" "is_shower" is_shower_s (a 24) (fd 24)
  m_is_shower : mg "is_shower" = some (.ref (a 24))
  b_is_shower : Binds K (fd 24) ["table", "value"] []
  F_are_unlike_showers : Fun K "are_unlike_showers" "are_unlike_showers" are_unlike_showers_s (a 25) (fd 25)
  m_are_unlike_showers : mg "are_unlike_showers" = some (.ref (a 25))
  b_are_unlike_showers : Binds K (fd 25) ["table", "thresholds", "value"] []
  F__law_pot : Fun K "_law_pot" "_law_pot" _law_pot_s (a 26) (fd 26)
  m__law_pot : mg "_law_pot" = some (.ref (a 26))
  b__law_pot : Binds K (fd 26) ["_law_script", "_law_k"] []
  F__law_draw : Fun K "_law_draw" "_law_draw" _law_draw_s (a 27) (fd 27)
  m__law_draw : mg "_law_draw" = some (.ref (a 27))
  b__law_draw : Binds K (fd 27) ["_law_pot_here", "_law_many"] []
  F__law_pick : Fun K "_law_pick" "_law_pick" _law_pick_s (a 28) (fd 28)
  m__law_pick : mg "_law_pick" = some (.ref (a 28))
  b__law_pick : Binds K (fd 28) ["_law_pot_here", "_law_some"] []
  F__law_mixed : Fun K "_law_mixed" "_law_mixed" _law_mixed_s (a 29) (fd 29)
  m__law_mixed : mg "_law_mixed" = some (.ref (a 29))
  b__law_mixed : Binds K (fd 29) ["_law_pot_here", "_law_some"] []
  F__law_lots : Fun K "_law_lots" "_law_lots" _law_lots_s (a 30) (fd 30)
  m__law_lots : mg "_law_lots" = some (.ref (a 30))
  b__law_lots : Binds K (fd 30) ["_law_pot_here"] []
  F__law_melting : Fun K "_law_melting" "_law_melting" _law_melting_s (a 31) (fd 31)
  m__law_melting : mg "_law_melting" = some (.ref (a 31))
  b__law_melting : Binds K (fd 31) ["_law_pot_here"] []
  F__law_join : Fun K "_law_join" "_law_join" _law_join_s (a 32) (fd 32)
  m__law_join : mg "_law_join" = some (.ref (a 32))
  b__law_join : Binds K (fd 32) ["_law_rows", "_law_values"] []
  F__law_read : Fun K "_law_read" "_law_read" _law_read_s (a 33) (fd 33)
  m__law_read : mg "_law_read" = some (.ref (a 33))
  b__law_read : Binds K (fd 33) ["_law_rows", "_law_thresholds", "_law_shower"] []
  F__law_is_shower : Fun K "_law_is_shower" "_law_is_shower" _law_is_shower_s (a 34) (fd 34)
  m__law_is_shower : mg "_law_is_shower" = some (.ref (a 34))
  b__law_is_shower : Binds K (fd 34) ["_law_rows", "_law_thing"] []
  F__law_are_unlike : Fun K "_law_are_unlike" "_law_are_unlike" _law_are_unlike_s (a 35) (fd 35)
  m__law_are_unlike : mg "_law_are_unlike" = some (.ref (a 35))
  b__law_are_unlike : Binds K (fd 35) ["_law_rows", "_law_clash", "_law_thresholds", "_law_thing"] []
  F__law_two : Fun K "_law_two" "_law_two" _law_two_s (a 36) (fd 36)
  m__law_two : mg "_law_two" = some (.ref (a 36))
  b__law_two : Binds K (fd 36) ["_law_pot_here", "_law_rows"] []
  F__law_firm_right : Fun K "_law_firm_right" "_law_firm_right" _law_firm_right_s (a 37) (fd 37)
  m__law_firm_right : mg "_law_firm_right" = some (.ref (a 37))
  b__law_firm_right : Binds K (fd 37) ["_law_pot_here", "_law_table_here", "_law_rows", "_law_clash", "_law_thresholds"] []
  F__law_right : Fun K "_law_right" "_law_right" _law_right_s (a 38) (fd 38)
  m__law_right : mg "_law_right" = some (.ref (a 38))
  b__law_right : Binds K (fd 38) ["_law_pot_here"] []
  F_law : Fun K "law" "law" law_s (a 39) (fd 39)
  m_law : mg "law" = some (.ref (a 39))
  b_law : Binds K (fd 39) ["_law_script"] []
  m_MOST_VALUES : mg "MOST_VALUES" = some (.int 7 (tk 0))
  z_isinstance : mg "isinstance" = none
  z_int : mg "int" = none
  z_bool : mg "bool" = none
  z_list : mg "list" = none
  z_tuple : mg "tuple" = none
  z_all : mg "all" = none
  z_len : mg "len" = none
  z_enumerate : mg "enumerate" = none
  z_range : mg "range" = none
  z_sorted : mg "sorted" = none
  z_set : mg "set" = none
  z_abs : mg "abs" = none
  z_max : mg "max" = none
  z_divmod : mg "divmod" = none
  z_min : mg "min" = none
end K31

set_option maxRecDepth 100000
set_option maxHeartbeats 4000000
namespace K31
open PySem PySem.Spec PyProof.Rows L2 Kh
section
variable {P : Program} {w : World} {K : PySem.W.Frag} {mg : Str → Option Value} {base : Heap} {a : Nat → Addr} {fd : Nat → FuncData} {C : Addr} {tk : Nat → Tok}
abbrev spIsInteger (K : PySem.W.Frag) : Sp := spP K d1 (fun _ => True) fun d => .bool (isIntD d)
theorem ok_is_integer (T : Txt K mg a fd C tk) : FnOk P w K mg base CX0 1 (a 0) (fd 0) ["value"] (spIsInteger K) := by
  refine T.F_is_integer.ok sc_is_integer (fun vs H Q E h => spP_len (fun _ => rfl) h) (fun cdv A outer s H vs Q E hr h => ?_)
  obtain ⟨S, d, kn, hd, -, q⟩ := h
  obtain - | ⟨hd, ⟨⟩⟩ := hd
  rename_i v
  refine ⟨_, (pss_one (ps_ret (pe_and (pe_callB call_isi (by rfl) T.z_isinstance (by decide +kernel) (pa_cons (pv 0) (pa_cons (pe_bltn (v := .ty "int") (by rfl) T.z_int (by decide +kernel) rfl) pa_nil))) (pe_one (pe_not (pe_callB call_isi (by rfl) T.z_isinstance (by decide +kernel) (pa_cons (pv 0) (pa_cons (pe_bltn (v := .ty "bool") (by rfl) T.z_bool (by decide +kernel) rfl) pa_nil)))))))), ?_⟩
  have fin : ∀ b, isIntD d = b → Q (.bl b) H := fun b e => q _ _ (Same.refl H) (by subst e; exact .bl _)
  refine s_ret (t_andV (t_cb2 (t_var rfl (t_c (isi_d off_sub hd (kit_int d) (bl_if (fun c => ?_) (fun c => ?_)))))))
  · refine t_notV (t_cb2 (t_var rfl (t_c (isi_d off_sub hd (kit_bool d) ⟨_, rfl, fin _ ?_⟩))))
    cases d <;> first | rfl | cases c
  · exact fin _ (by cases d <;> first | rfl | cases c)
abbrev spIsCount (K : PySem.W.Frag) : Sp := spP K d1 (fun _ => True) fun d => .bool (isCountD d)
theorem ok_is_count (T : Txt K mg a fd C tk) : FnOk P w K mg base CX0 2 (a 1) (fd 1) ["value"] (spIsCount K) := by
  have G_is_integer : FnOk P w K mg base CX0 1 (a 0) (fd 0) ["value"] (spIsInteger K) := ok_is_integer T
  refine T.F_is_count.ok sc_is_count (fun vs H Q E h => spP_len (fun _ => rfl) h) (fun cdv A outer s H vs Q E hr h => ?_)
  obtain ⟨S, d, kn, hd, -, q⟩ := h
  obtain - | ⟨hd, ⟨⟩⟩ := hd
  rename_i v
  refine ⟨_, (pss_one (ps_ret (pe_and (pe_call G_is_integer (hr.mono (by omega)) (by rfl) T.m_is_integer T.F_is_integer.kp T.b_is_integer .nil pass0 (pa_cons (pv 0) pa_nil)) (pe_one (pe_cmpR op_ge (pv 0) pe_int (nomark _)))))), ?_⟩
  have fin : ∀ b H', isCountD d = b → Same H H' → Q (.bl b) H' := fun b H' e sm => q _ _ sm (by subst e; exact .bl _)
  refine s_ret (t_andV (t_call1 (t_var rfl (spP_bl off_sub d (.cons hd .nil) trivial rfl fun H' sm => bl_if (fun c => ?_) (fun c => fin _ _ (by cases d <;> first | rfl | cases c) sm)))))
  cases d with
  | int i =>
    cases hd
    exact t_op (t_var rfl (t_c ⟨_, _, rfl, rfl, fin _ _ rfl sm⟩))
  | _ => cases c
abbrev spIsList (K : PySem.W.Frag) : Sp := spP K d1 (fun _ => True) fun d => .bool (isListD d)
theorem ok_is_list (T : Txt K mg a fd C tk) : FnOk P w K mg base CX0 1 (a 2) (fd 2) ["value"] (spIsList K) := by
  refine T.F_is_list.ok sc_is_list (fun vs H Q E h => spP_len (fun _ => rfl) h) (fun cdv A outer s H vs Q E hr h => ?_)
  obtain ⟨S, d, kn, hd, -, q⟩ := h
  obtain - | ⟨hd, ⟨⟩⟩ := hd
  rename_i v
  refine ⟨_, (pss_one (ps_ret (pe_callB call_isiT (by rfl) T.z_isinstance (by decide +kernel) (pa_cons (pv 0) (pa_cons (pe_tup (pa_cons (pe_bltn (v := .ty "list") (by rfl) T.z_list (by decide +kernel) rfl) (pa_cons (pe_bltn (v := .ty "tuple") (by rfl) T.z_tuple (by decide +kernel) rfl) pa_nil))) pa_nil))))), ?_⟩
  refine ⟨v, rfl, by decide, fun p hp => ?_⟩
  exact isi2_d (off_sub.trans (same_new hp)) hd upd_same (kit_list d) (kit_tup d) (q _ _ (same_new hp) (.bl _))
abbrev spBelow (K : PySem.W.Frag) : Sp := spP K (fun x : PyData × Int => [x.1, .int x.2]) (fun _ => True) fun x => .bool (belowD x.2 x.1)
theorem ok_is_number_below (T : Txt K mg a fd C tk) : FnOk P w K mg base CX0 3 (a 3) (fd 3) ["value", "many"] (spBelow K) := by
  have G_is_count : FnOk P w K mg base CX0 2 (a 1) (fd 1) ["value"] (spIsCount K) := ok_is_count T
  refine T.F_is_number_below.ok sc_is_number_below (fun vs H Q E h => spP_len (fun _ => rfl) h) (fun cdv A outer s H vs Q E hr h => ?_)
  obtain ⟨S, ⟨d, m⟩, kn, hd, -, q⟩ := h
  obtain - | ⟨hd, - | ⟨⟨⟩, ⟨⟩⟩⟩ := hd
  rename_i v
  refine ⟨_, (pss_one (ps_ret (pe_and (pe_call G_is_count (hr.mono (by omega)) (by rfl) T.m_is_count T.F_is_count.kp T.b_is_count .nil pass0 (pa_cons (pv 0) pa_nil)) (pe_one (pe_cmpR op_lt (pv 0) (pv 1) (nomark _)))))), ?_⟩
  have fin : ∀ b H', belowD m d = b → Same H H' → Q (.bl b) H' := fun b H' e sm => q _ _ sm (by subst e; exact .bl _)
  refine s_ret (t_andV (t_call1 (t_var rfl (spP_bl off_sub d (.cons hd .nil) trivial rfl fun H' sm => bl_if (fun c => ?_) (fun c => fin _ _ ?_ sm)))))
  · cases d with
    | int i =>
      cases hd
      refine t_op (t_var rfl (t_var rfl ⟨_, _, rfl, rfl, fin _ _ ?_ sm⟩))
      show (decide (0 ≤ i) && decide (i < m)) = decide (i < m)
      rw [show decide (0 ≤ i) = true from c]; rfl
    | _ => cases c
  · cases d <;> first | rfl | skip
    rename_i i
    show (decide (0 ≤ i) && decide (i < m)) = false
    rw [show decide (0 ≤ i) = false from c]; rfl
end
end K31

set_option maxRecDepth 100000
set_option maxHeartbeats 4000000
namespace K31
open PySem PySem.Spec PyProof.Rows L2 Kh
section
variable {P : Program} {w : World} {K : PySem.W.Frag} {mg : Str → Option Value} {base : Heap} {a : Nat → Addr} {fd : Nat → FuncData} {C : Addr} {tk : Nat → Tok}
/-- whole numbers told -/
def nD (n : Nat) : PyData := .int (n : Nat)
def nL (ns : List Nat) : PyData := .list (ns.map nD)
theorem mem_ints {n : Nat} {s : List Nat} : ((n : Nat) : Int) ∈ s.map (fun m : Nat => ((m : Nat) : Int)) ↔ n ∈ s := by
  constructor
  · intro h
    obtain ⟨m, hm, e⟩ := List.mem_map.mp h
    have : m = n := by omega
    exact this ▸ hm
  · intro h; exact List.mem_map.mpr ⟨n, h, rfl⟩
end
end K31

set_option maxRecDepth 100000
set_option maxHeartbeats 1000000
/-! name = {k: v for ..} -/
namespace Kh
open PySem PySem.Spec PyProof.Rows L2
theorem t_dc {wi : TI} {g : TG} {tt : TT} {tk tv : TE} {vs : List Nat} {σ : L2.St} {H : Hp} {Q : VK} (h : wi σ H fun J H1 => ∀ D, H1 D = none → ∃ W : Nat → Nat → Hp → Prop, (∃ m, W 0 m (upd H1 D (.dK []))) ∧ ∀ i m H, W i m H →
    (J.stop i H ∧ Q (.ref D) H) ∨ (J.go i H ∧ ∃ Nx : Hp → Prop, (∀ H', Nx H' → ∃ m', m' < m ∧ W (i + 1) m' H') ∧ ∀ x H', J.yld i H x H' → g x (wipe σ vs) H' fun σ2 H2 => wipe σ2 vs = wipe σ vs ∧ tt σ2 H2 fun b H3 =>
      if b = true then tk σ2 H3 fun y H4 => tv σ2 H4 fun z H5 => ∃ kvs k, y = kV k ∧ H5 D = some (.dK kvs) ∧ kvs.length < sizeLine ∧ Nx (upd H5 D (.dK (putK kvs k z))) else Nx H3)) : tDc wi g tt tk tv vs σ H Q := h
section
variable {X : Cx}
theorem sw_dict {kx vx : Expr} {gs : List Comprehension} {sc : Scope} {p q : Pos} {y : Str} {l : Nat} {env : Env} (h1 : env.scope.kind = .function) (h2 : env.scope.names.lookup y = some .local) (h3 : (q.line == p.line) = true)
    (h4 : (sc.names.any fun (n, k) => n == y && (k == .local || k == .cell)) = false) : swapsWith (.DictComp kx vx gs sc p) (some (.Name y q)) l env = pure true := by
  have k1 : env.kindOf y = some .local := h2
  have k2 : env.blockKind = .function := by (unfold Env.blockKind; rw [h1]; rfl)
  unfold swapsWith; simp only [k2, k1, h4, Expr.pos, h3]; rfl
theorem ps_setDc {i : Nat} {y : Str} {py : Pos} {kx vx tg it : Expr} {ifs : List Expr} {sc : Scope} {own : List (Str × Nat)} {pos spos : Pos} {wi : TI} {g : TG} {tt : TT} {tk tv : TE} (hc : X.calm = true) (hN : X.N.Nodup) (hy : X.N[i]? = some y) (hyl : X.env.scope.names.lookup y = some .local)
    (hsw : swapsWith (.DictComp kx vx [⟨tg, it, ifs, 0⟩] sc pos) (some (.Name y py)) spos.line X.env = pure true) (hi : PI X tg it wi) (ok : BlkOk X.N X.env.scope sc own)
    (hg : ∀ (s : Shared) (H : Hp) (C : Addr) (cl : List (Str × Addr)) (fp : List Addr), PG (X.blk s H sc (compEnvC sc cl C X.env) fp) tg g)
    (ht : ∀ (s : Shared) (H : Hp) (C : Addr) (cl : List (Str × Addr)) (fp : List Addr), PTs (X.blk s H sc (compEnvC sc cl C X.env) fp) ifs tt)
    (hk : ∀ (s : Shared) (H : Hp) (C : Addr) (cl : List (Str × Addr)) (fp : List Addr), PE (X.blk s H sc (compEnvC sc cl C X.env) fp) kx tk)
    (he : ∀ (s : Shared) (H : Hp) (C : Addr) (cl : List (Str × Addr)) (fp : List Addr), PE (X.blk s H sc (compEnvC sc cl C X.env) fp) vx tv) (hs : ∀ x, foldedSetIterable it X.env x = pure x := by intro _; rfl) :
    PS X (.Assign [.Name y py] (.DictComp kx vx [⟨tg, it, ifs, 0⟩] sc pos) spos) (tAsg (tDc wi g tt tk tv (own.map (·.2))) (gName i)) := by
  constructor
  intro pins s ρ H D I h
  rw [exec_Assign_Name_used _ _ _ _ hsw]
  have h' : tDc wi g tt tk tv (own.map (·.2)) ρ H (fun x H1 => gName i x ρ H1 D.nx) := h
  have step := dc_core (pos := pos) (pos' := firstIterPos [⟨tg, it, ifs, 0⟩] pos) (use := some (assign (.Name y py) X.env)) (Qf := fun _ s' => SP X pins D .next s') hc hN I hi ok hg ht hk he hs h' (fun L c s' m H' I' q hn f => by
    show wpAny _ _ (assign (.Name y py) X.env (.ref L)) _ _ _
    refine wpAny_assign_Name (store_ok2 (v := V.ref L) I' hN hy (.inl hyl) rfl ?_ (.inr hyl))
    rintro s2 I2 ⟨b, sb, hb⟩
    obtain ⟨f0, f1, f2, f3, f4, f5⟩ := f
    have nb : c ≠ b := hb.elim (fun z => z ▸ f1) fun z e => f4 y b z e.symm
    exact ⟨m, hn.sameBut sb nb, fun h3 sb3 => ⟨_, H', I2.turned (t' := s2.toks) (fun d o hd e => (sb3.2 d hd).trans e) f0 f1 f3 f4 f5, q⟩⟩)
  exact wpAny_bind (wpAny_standAt (wpAny_bind (wpAny_bind (thn step fun _ s' hq => wpAny_pure (wpAny_pure hq)))))
end
end Kh

set_option maxRecDepth 100000
set_option maxHeartbeats 4000000
namespace K31
open PySem PySem.Spec PyProof.Rows L2 Kh
section
variable {P : Program} {w : World} {K : PySem.W.Frag} {mg : Str → Option Value} {base : Heap} {a : Nat → Addr} {fd : Nat → FuncData} {C : Addr} {tk : Nat → Tok}
theorem dpa_snoc {K : PySem.W.Frag} {H : Hp} {d : PyData} : ∀ {ds : List PyData} {vs : List V}, DpAll K H vs (ds ++ [d]) → ∃ vs' v, vs = vs' ++ [v] ∧ DpAll K H vs' ds ∧ Dp K H v d
  | [], _, .cons h .nil => ⟨[], _, rfl, .nil, h⟩
  | e :: ds, _, .cons h t => by
    obtain ⟨vs', v, rfl, h1, h2⟩ := dpa_snoc t
    exact ⟨_ :: vs', v, rfl, .cons h h1, h2⟩
theorem nD_map (ns : List Nat) : ns.map nD = (ns.map fun m : Nat => ((m : Nat) : Int)).map PyData.int := by rw [List.map_map]; rfl
theorem isListD_sq (b : Bool) (ds : List PyData) : isListD (sq b ds) = true := by cases b <;> rfl
/-- all are so -/
theorem all_map {n : Nat} {f : Nat → Bool} (h : ∀ i, i < n → f i = true) : ((List.range n).map f).all id = true := by
  rw [List.all_map, List.all_eq_true]
  intro x hx
  exact h x (List.mem_range.mp hx)
end
end K31

set_option maxRecDepth 100000
set_option maxHeartbeats 1000000
/-! [e for x in range(n) if t]; fields; makes -/
namespace Kh
open PySem PySem.Spec PyProof.Rows L2
theorem lc_rngF {K : PySem.W.Frag} {S : Addr → Prop} {H : Hp} {σ : L2.St} {te : TE} {tt : TT} {sl : Nat} {vs : List Nat} {Q : VK} {n : Nat} {ta : TA} (pt : Nat → Bool) (f : Nat → PyData) (kn : Kn S H) (hn : n ≤ 100000)
    (hev : ∀ q : List V → Hp → Prop, (∀ H1, Same H H1 → q [.int (n : Nat)] H1) → ta σ H q) (hw : ∀ x, wipe ((wipe σ vs).set sl (some x)) vs = wipe σ vs)
    (test : ∀ j H1 S', j < n → Same H H1 → Kn S' H1 → (∀ a, S a → S' a) → Same (off S H) (off S' H1) → ∀ Q : Bool → Hp → Prop, (∀ H', Same H1 H' → Q (pt j) H') → tt ((wipe σ vs).set sl (some (.int (j : Nat)))) H1 Q)
    (body : ∀ j H1 S', j < n → pt j = true → Same H H1 → Kn S' H1 → (∀ a, S a → S' a) → Same (off S H) (off S' H1) → ∀ Q : VK, (∀ y H', Same H1 H' → Dp K (off S' H') y (f j) → Q y H') → te ((wipe σ vs).set sl (some (.int (j : Nat)))) H1 Q)
    (done : ∀ D H1 ys, H D = none → Same H H1 → H1 D = some (.lst ys) → Dp K (off S H1) (.ref D) (.list (((List.range n).filter pt).map f)) → Q (.ref D) H1) :
    tLc (iRng1 ta) (gName sl) tt te vs σ H Q := by
  refine hev _ fun H0 s0 => ⟨(n : Nat), rfl, by omega, by omega, ?_⟩
  have kn0 := kn.same s0
  intro D hD
  have w : Walk (Itr 0 n) n (fun _ => True) (YFn fun i => .int (0 + i)) := walk_range
  refine lc_filt (Qd := Q (.ref D)) w (fun j x => x = .int (j : Nat)) (fun i H x H' _ y => ⟨y.1, by rw [y.2]; show V.int (0 + _) = _; rw [Int.zero_add]⟩) pt (fun j y H => Dp K (off (plus S D) H) y (f j)) (fun H s => trivial) hD hn hw (fun j y H H' e h => dp_same (off_but e) _ _ h) (fun j x H1 hj xj s hd Q q => ?_) (fun j x H1 hj xj pj s hd Q q => ?_) (fun ys H1 py s hd => ?_)
  · subst xj
    exact test j H1 (plus S D) hj (s0.trans s) ((kn0.same s).plus hd) (fun _ h => .inl h) ((off_same s0).trans (off_plus hD s)) Q q
  · subst xj
    exact body j H1 (plus S D) hj pj (s0.trans s) ((kn0.same s).plus hd) (fun _ h => .inl h) ((off_same s0).trans (off_plus hD s)) Q q
  · refine done D H1 ys (s0.free hD) (s0.trans s) hd (dp_lst (kn0.new hD) hd ?_)
    refine dpa_same (off_fin (D := D)) _ _ ?_
    have go : ∀ {l : List Nat} {ys : List V}, Paired (fun j y => Dp K (off (plus S D) H1) y (f j)) l ys → DpAll K (off (plus S D) H1) ys (l.map f) := by
      intro l ys p
      induction p with
      | nil => exact .nil
      | cons r t ih => exact .cons r ih
    exact go py
section
variable {σ : L2.St} {H : Hp} {Q : VK} {D : Ends} {te ta tb tc : TE} {K : PySem.W.Frag} {sp : Sp} {E : XK} {C : Addr}
theorem s_fld {f : Str} (h : tb σ H fun y H1 => ta σ H1 fun x H2 => ∃ a C dx fs, x = .ref a ∧ H2 a = some (.ins C dx fs) ∧ Cls K C ∧ NoAttr K C f ∧ fs.length < 1000 ∧ D.nx σ (upd H2 a (.ins C dx (putF f y fs)))) : sFld K ta tb f D σ H := h
theorem t_fld {f : Str} (h : ta σ H fun x H1 => ∃ a C dx fs v, x = .ref a ∧ H1 a = some (.ins C dx fs) ∧ Cls K C ∧ NoAttr K C f ∧ fs.lookup f = some v ∧ Q v H1) : tFld K ta f σ H Q := h
theorem t_prop (h : ta σ H fun x H1 => ∃ a dx fs, x = .ref a ∧ H1 a = some (.ins C dx fs) ∧ sp [.ref a] H1 Q E) : tProp C sp [] E ta σ H Q := h
theorem t_meth0 {m : Str} (h : ta σ H fun x H1 => ∃ a dx fs, x = .ref a ∧ H1 a = some (.ins C dx fs) ∧ fs.lookup m = none ∧ sp [x] H1 Q E) : tMeth C m sp [] E ta tNil σ H Q := h
theorem t_meth1 {m : Str} (h : ta σ H fun x H1 => ∃ a dx fs, x = .ref a ∧ H1 a = some (.ins C dx fs) ∧ fs.lookup m = none ∧ tb σ H1 fun y H2 => sp [x, y] H2 Q E) : tMeth C m sp [] E ta (tCons tb tNil) σ H Q := h
theorem t_make1 (h : ta σ H fun y H1 => ∀ x dx, H1 x = none → H1 dx = none → dx ≠ x → sp [.ref x, y] (upd (upd H1 dx (.own x)) x (.ins C dx [])) (fun v H2 => v = .non ∧ Q (.ref x) H2) E) : tMake C sp [] E (tCons ta tNil) σ H Q := h
end
end Kh

set_option maxRecDepth 100000
set_option maxHeartbeats 1000000
/-! x != y where the class has its own == and no own != -/
namespace PySem.W
open PySem PySem.Calls PyProof.Rows Builtin
section
variable {prog : Program} {w : World} {A : Around} {E : Value → Shared → Prop} {s : Shared} {K : Frag} {x C L f : Addr} {h₀ : Heap} {m : Str → Option Value} {ox : Obj} {od : Option Obj} {b tb : Value}
theorem kh_ifBoundB {M : Model} {name : Str} {id : String} {args : List Value} {Q : Option Value → Shared → Prop} (X : K.In s.heap) (I : InstAt s.heap x ox C od) (hs : findIn K (.ref C) name = some (some (.builtin id))) (hb : ∀ self, bindSpecial (.builtin id) self = pure (.builtin id, [self]))
    (h : wpAny M A (call (.builtin id) (.ref x :: args)) (fun v => Q (some v)) E s) : wpAny M A (callSpecialIfBound? (.ref x) name args) Q E s := by
  simp only [callSpecialIfBound?, bindSpecialIfBound?]
  refine wpAny_holding (wpAny_bind (wpAny_bind (wpAny_bind (I.type.here ((looks_findIn X hs).here ?_)))))
  simp only [hb]
  refine wpAny_bind (wpAny_askSetting (wpAny_ite ?_))
  have fin : wpAny M A (call (.builtin id) ([.ref x] ++ args) >>= fun v => pure (some v)) Q E s := wpAny_bind (wpAny_mono h (fun v s' h' => wpAny_pure h') fun _ _ h' => h')
  split
  · exact wpAny_bind (wpAny_pure (wpAny_pure fin))
  · exact wpAny_tryCatch (wpAny_bind (wpAny_pure (wpAny_pure fin)))
theorem kh_check {M : Model} {id owner n : String} {rest : List Value} {Q : Unit → Shared → Prop} (X : K.In s.heap) (I : InstAt s.heap x ox C od) (ho : subIn K (.ref C) (.type owner) = some true) (hk : builtinKind id = some .slot) (hs : splitId id = some (owner, n))
    (ha : argsOk id ⟨.ref x :: rest, []⟩) (hq : Q () s) : wpAny M A (checkBuiltinCall id ⟨.ref x :: rest, []⟩) Q E s := by
  simp only [checkBuiltinCall, hk, hs]
  have S : Looks M s.heap (isInstance (.ref x) (.type owner)) true := (I.type).andThen (looks_subIn X ho)
  refine wpAny_bind (S.here ?_)
  simp only [Bool.not_true, Bool.false_eq_true, if_false]
  cases hsig : Manifest.signature? id with
  | none => first | exact wpAny_pure hq | exact wpAny_bind (wpAny_pure hq)
  | some sig =>
    simp only [argsOk, hsig] at ha
    have h2 : Bind.checkArgs id sig ⟨.ref x :: rest, []⟩ = pure () := ha
    show wpAny M A (Bind.checkArgs id sig ⟨.ref x :: rest, []⟩) Q E _
    rw [h2]; exact wpAny_pure hq
theorem kh_ne {Q : Value → Shared → Prop} (hu : A.units < cLine) (hu1 : A.in1.units < cLine) (F0 : Fr h₀ L s.heap m) (X₀ : K.In h₀) (I : InstAt s.heap x ox C od) (hb : Looks (model prog w) s.heap (typeOf b) tb) (hn : notFirst K C tb = true)
    (hne : findIn K (.ref C) "__ne__" = some (some (.builtin "object.__ne__"))) (ho : subIn K (.ref C) (.type "object") = some true)
    (hs : findIn K (.ref C) "__eq__" = some (some (.ref f))) (hf : isFn K (.ref f) = true)
    (h : wpAny (model prog w) A.in1 (call (.ref f) [.ref x, b]) (fun v s' => ∃ r, v = .bool r ∧ Q (.bool (!r)) s') E s) : wpAny (model prog w) A (richCompare .NotEq (.ref x) b) Q E s := by
  have X := X₀.keeps F0.keep
  have one : wpAny (model prog w) A (tryCompare (.ref x) "__ne__" b) (fun r s' => ∃ v, r = some v ∧ Q v s') E s := by
    unfold tryCompare
    refine wpAny_bind (kh_ifBoundB X I hne F.cmp_object.ne.bind (wpAny_call (codeAny_call_builtin F.cmp_object.ne.plain F.cmpEntry_ne (kh_check X I ho F.cmpKind_ne F.cmpSplit_ne (F.cmpArgs_ne _ _) ?_))))
    unfold Builtin.«object.__ne__»
    repeat (first
      | with_reducible refine wpAny_cRoomFor hu1 ?_
      | (refine wpAny_bind (m := callSpecialIfBound? (.ref x) (Str.ofString "__eq__") [b]) (ifBound_K X I hs hf (wpAny_mono h (fun r s' hr => ?_) fun _ _ e => e)))
      | wp_step)
    obtain ⟨r, rfl, hq⟩ := hr
    repeat (first | exact hq | exact wpAny_pure hq | exact wpAny_truthy_bool hq | (refine wpAny_bind (m := truthy (.bool _)) (wpAny_truthy_bool ?_)) | wp_step)
    all_goals first | exact ⟨_, rfl, hq⟩ | exact wpAny_pure ⟨_, rfl, hq⟩ | skip
  unfold richCompare
  simp only [oneThing_ref]
  refine wpAny_holding (wpAny_bind (wpAny_cRoomFor hu ?_))
  refine wpAny_bind (I.type.here (wpAny_bind (hb.here ?_)))
  rw [cmpInfo_NotEq]
  dsimp only
  split
  · rename_i q
    have e : subIn K tb (.ref C) = some false := by
      rcases Bool.or_eq_true_iff.mp hn with e | e
      · rw [beq_iff_eq.mp e] at q; simp at q
      · exact beq_iff_eq.mp e
    refine wpAny_bind ((looks_subIn X e).here ?_)
    simp only [Bool.false_eq_true, if_false]
    refine wpAny_bind (wpAny_mono one (fun r s' z => ?_) fun _ _ e => e)
    obtain ⟨v, rfl, hq⟩ := z
    exact wpAny_pure hq
  · refine wpAny_bind (wpAny_pure ?_)
    simp only [Bool.false_eq_true, if_false]
    refine wpAny_bind (wpAny_mono one (fun r s' z => ?_) fun _ _ e => e)
    obtain ⟨v, rfl, hq⟩ := z
    exact wpAny_pure hq
end
end PySem.W

set_option maxRecDepth 100000
set_option maxHeartbeats 2000000
/-! own operators of a class; defs whose promise wants that no repr is under way -/
namespace Kh
open PySem PySem.Spec PyProof.Rows L2
/-- a def's promise, where no repr is under way -/
structure FnG (P : Program) (w : World) (K : PySem.W.Frag) (mg : Str → Option Value) (base : Heap) (k : Nat) (f : Addr) (fd : FuncData) (ps : List Str) (sp : Sp) : Prop where
  len : ∀ vs H Q E, sp vs H Q E → vs.length = ps.length
  run : ∀ (A : Around) (outer : List Env) (s : Shared) (H : Hp) (args : Args) (us : List Value) (vs : List V) (Q : VK) (E : XK), A.guards = some [] → Room k A → Env0 P w K mg base A outer s H → BindsTo s fd args (ps.zip us) → Vals vs us → sp vs H Q E →
    codeAny (model P w) A (.call (.ref f) args) (CR CX0 outer P w H s Q E) s
section
variable {P : Program} {w : World} {K : PySem.W.Frag} {mg : Str → Option Value} {base : Heap}
theorem FnG.of {k : Nat} {f : Addr} {fd : FuncData} {ps : List Str} {sp : Sp} (F : FnOk P w K mg base CX0 k f fd ps sp) : FnG P w K mg base k f fd ps sp := ⟨F.len, fun A outer s H args us vs Q E _ => F.run A outer s H args us vs Q E⟩
theorem FnG.mono {j k : Nat} {f : Addr} {fd : FuncData} {ps : List Str} {sp : Sp} (F : FnG P w K mg base j f fd ps sp) (h : j ≤ k) : FnG P w K mg base k f fd ps sp := ⟨F.len, fun A outer s H args us vs Q E hg hr => F.run A outer s H args us vs Q E hg (hr.mono h)⟩
/-- the rule for a def, as Fun.ok -/
theorem fun_okG {x qual : Str} {st : Stmt} {f : Addr} {fd : FuncData} {N ps : List Str} {k : Nat} {sp : Sp} (F : Fun K x qual st f fd) (S : FnScope N ps (defScope st)) (len : ∀ vs H Q E, sp vs H Q E → vs.length = ps.length)
    (hbody : ∀ (cdv : Value) (A : Around) (outer : List Env) (s : Shared) (H : Hp) (vs : List V) (Q : VK) (E : XK), (A.deeper (envOfC qual (defScope st) s.heap.objs.size f cdv)).guards = some [] → Room k (A.deeper (envOfC qual (defScope st) s.heap.objs.size f cdv)) → sp vs H Q E →
      ∃ t, PSs (cxOf CX0 P w K mg base N qual (defScope st) f cdv A outer s H E).nox (defBody st) t ∧ t { nx := fun _ H' => Q .non H', rt := Q } (start N vs) H) : FnG P w K mg base (k + 1) f fd ps sp := by
  obtain ⟨oc, od, kV, doc, pm, an, cdv, ct, osl, rfl, lk, hcd⟩ := F.ex
  refine ⟨len, fun A outer s H args us vs Q E hg hr z0 hb r hsp => ?_⟩
  have hlen := len _ _ _ _ hsp
  have KI : K.In s.heap := z0.mod.kin.keeps fun b o e => (z0.bs b o e).1
  have noL : s.heap.NoLimit := z0.mod.nolimit.keeps fun b o e => (z0.bs b o e).1
  have kinds : ∀ y ∈ ps.zip us, (defScope st).names.lookup y.1 = some .local ∨ ((defScope st).names.lookup y.1 = some .cell ∧ ((cellsFrom (s.heap.objs.size + 1) (defScope st).names []).lookup y.1).isSome = true) := by
    rintro ⟨n, v⟩ hy
    rcases S.par n (List.of_mem_zip hy).1 with c | c
    · exact Or.inl c
    · exact Or.inr ⟨c, PySem.W.cellsFrom_some _ _ _ (Or.inl c)⟩
  refine codeAny_call_function hr.depth (KI _ _ lk) rfl S.co S.gen rfl (PySem.W.codeRec_of KI hcd) (hb _ _ _ _ ?_)
  refine wpAny_newFunctionEnv_cells S.kind kinds fun env ev s1 xc => ?_
  subst ev
  refine ⟨noL.keeps xc.toInCall.keep, codeAny_func ?_⟩
  obtain ⟨t, ht, hq⟩ := hbody cdv A outer s H vs Q E hg (hr.deeper _) hsp
  have start0 : Inv (cxOf CX0 P w K mg base N qual (defScope st) f cdv A outer s H E) [] (start N vs) H s1 := inv_start S hr.hd z0 hlen r xc
  refine wpAny_mono (ht.nox.run [] s1 (start N vs) H _ start0 hq) (fun fl s' hs => ?_) fun e s' hs => hs
  have ended : ∀ {ρ : L2.St} {H2 : Hp} {v : V} {u : Value}, Inv (cxOf CX0 P w K mg base N qual (defScope st) f cdv A outer s H E) [] ρ H2 s' → RelV v u → Q v H2 → CE outer P w H s Q u s' :=
    fun {ρ H2 v u} J rv q => ⟨v, H2, J.os, J.bare, J.base, J.hok, rv, q⟩
  cases fl with
  | ret u =>
    obtain ⟨v, ρ, H2, J, rv, q⟩ := hs
    exact ended J rv q
  | next =>
    obtain ⟨ρ, H2, J, q⟩ := hs
    exact ended (v := V.non) (u := Value.none) J rfl q
  | brk => obtain ⟨_, _, _, q⟩ := hs; exact q.elim
  | cont => obtain ⟨_, _, _, q⟩ := hs; exact q.elim
end
/-- the callee can be run from this body, at every state below it -/
def Runs (X : Cx) (k : Nat) (f : Addr) (sp : Sp) : Prop := ∀ (A : Around) (pins : List (Addr × Obj)) (σ : L2.St) (H : Hp) (s : Shared) (us : List Value) (vs : List V) (Q : VK) (E' : Value → Shared → Prop), A.frames = X.A.frames → A.guards = X.A.guards → Room k A →
  Inv X pins σ H s → Vals vs us → sp vs H Q E0 → wpAny (model X.prog X.w) A (call (.ref f) us) (EP X pins σ Q) E' s
section
variable {X : Cx} {k : Nat} {f : Addr} {fd : FuncData} {ps : List Str} {sp : Sp}
theorem runsG (F : FnG X.prog X.w X.K X.mg X.base k f fd ps sp) (hg : X.A.guards = some []) (hb : Binds X.K fd ps []) : Runs X k f sp := by
  intro A pins σ H s us vs Q E' fr gd hr I r h
  have hl : us.length = ps.length := by rw [← r.length]; exact F.len _ _ _ _ h
  have e0 : Env0 X.prog X.w X.K X.mg X.base A X.stack s H := by
    have e := I.env0
    exact ⟨by rw [fr]; exact e.frames, e.mod, e.bs, e.bsz, e.funs, e.frf, e.hok, e.bare⟩
  refine wpAny_call (codeAny_mono (F.run A X.stack s H ⟨us, []⟩ us vs Q E0 (gd.trans hg) hr e0 (by simpa using hb s us I.kIn (by simpa using hl)) r h) fun r s' hq => ?_)
  cases r with
  | error e => exact (show False from hq).elim
  | ok fl =>
    cases fl with
    | ret w => exact I.after hq
    | next => exact (show False from hq).elim
    | brk => exact (show False from hq).elim
    | cont => exact (show False from hq).elim
theorem runsOk (F : FnOk X.prog X.w X.K X.mg X.base CX0 k f fd ps sp) (hb : Binds X.K fd ps []) : Runs X k f sp := by
  intro A pins σ H s us vs Q E' fr gd hr I r h
  have hl : us.length = ps.length := by rw [← r.length]; exact F.len _ _ _ _ h
  have e0 : Env0 X.prog X.w X.K X.mg X.base A X.stack s H := by
    have e := I.env0
    exact ⟨by rw [fr]; exact e.frames, e.mod, e.bs, e.bsz, e.funs, e.frf, e.hok, e.bare⟩
  refine wpAny_call (codeAny_mono (F.run A X.stack s H ⟨us, []⟩ us vs Q E0 hr e0 (by simpa using hb s us I.kIn (by simpa using hl)) r h) fun r s' hq => ?_)
  cases r with
  | error e => exact (show False from hq).elim
  | ok fl =>
    cases fl with
    | ret w => exact I.after hq
    | next => exact (show False from hq).elim
    | brk => exact (show False from hq).elim
    | cont => exact (show False from hq).elim
theorem Runs.imp {sp' : Sp} (R : Runs X k f sp) (h : ∀ vs H Q, sp' vs H Q E0 → sp vs H Q E0) : Runs X k f sp' := fun A pins σ H s us vs Q E' fr gd hr I r q => R A pins σ H s us vs Q E' fr gd hr I r (h _ _ _ q)
/-- f(..) of such a def -/
theorem pe_callG {p pos : Pos} {x : Str} {e : Expr} {es : List Expr} {t : TA} (R : Runs X k f sp) (hr : Room k X.A) (hg : Gl X x) (hm : X.mg x = some (.ref f)) (hk : PySem.W.keepIn X.K (.ref f) = true) (ha : PA X (e :: es) t)
    (hdb : (x == ("__debug__" : Str)) = false := by decide) (he : starEach (e :: es) X.env = (false, eval e X.env) :: starEach es X.env := by rfl) (hpl : (backTo pos (starEach es X.env)).any (·.1) = false := by rfl) :
    PE X (.Call (.Name x p) (e :: es) [] pos) (tCall sp [] E0 t) := by
  refine ⟨fun pins s σ H Q I h => ?_⟩
  have h' : t σ H fun vs H1 => sp vs H1 Q E0 := by
    have e : (fun (vs : List V) (H1 : Hp) => sp (vs ++ []) H1 Q E0) = fun vs H1 => sp vs H1 Q E0 := by funext vs H1; rw [List.append_nil]
    rw [← e]; exact h
  refine wpAny_Call_Name_kw (ld_glob I hg hm ?_ hdb)
  refine PySem.W.callWith_K (h₀ := X.base) I.ok.mod.kin hk (thn (ha.run pos pins s σ H _ I h') fun us s1 ⟨vs, H1, I1, r, q⟩ => ⟨I1.kIn, ?_⟩) he hpl
  exact R X.A pins σ H1 s1 us vs Q X.xe rfl rfl hr I1 r q
/-! own operators -/
def isI (H : Hp) (C : Addr) (x : V) : Prop := ∃ a dx fs, x = .ref a ∧ H a = some (.ins C dx fs)
def rLenI (C : Addr) (sp : Sp) : List V → Hp → VK → Prop := fun xs H Q => ∃ x, xs = [x] ∧ isI H C x ∧ sp [x] H (fun v H' => ∃ n : Nat, v = .int n ∧ n < 2 ^ 62 ∧ Q (.int n) H') E0
theorem call_lenI {C : Addr} (R : Runs X k f sp) (hr : Room (k + 1) X.A) (M : Meth X.K C "__len__" f) : CallR X (.builtin "len") (rLenI C sp) := by
  intro pins s σ H xs us Q I r h
  obtain ⟨_, rfl, ⟨a, dx, fs, rfl, ha⟩, hs⟩ := h
  obtain ⟨u, rfl, ru⟩ := r.one
  cases ru
  obtain ⟨mA, J, _⟩ := ins_get I.hok ha
  obtain ⟨od, J, _⟩ := J.look
  obtain ⟨m, hF⟩ := I.fr
  refine PySem.W.len_K hF I.ok.mod.kin J M.at_ M.fn (wpAny_mono (R X.A.in1 pins σ H s [.ref a] [.ref a] _ X.xe rfl rfl hr.in1 I (.cons rfl .nil) hs) (fun r s' q => ?_) fun _ _ z => z)
  obtain ⟨v, H', I', rv, n, rfl, hn, q⟩ := q
  obtain ⟨tk, rfl⟩ := rv
  exact ⟨⟨by omega, by omega⟩, .int n, H', I'.tok _, ⟨_, rfl⟩, q⟩
def rInI (C : Addr) (sp : Sp) : R2 := fun x y H Q => isI H C y ∧ sp [y, x] H (fun v H' => ∃ b, v = .bl b ∧ Q (.bl b) H') E0
theorem op_inI {C : Addr} (R : Runs X k f sp) (hr : Room k X.A) (M : Meth X.K C "__contains__" f) : OpR X (compareOp .In) (rInI C sp) := by
  intro pins s σ H x y v u Q I rx ry h
  obtain ⟨⟨a, dx, fs, rfl, ha⟩, hs⟩ := h
  cases ry
  obtain ⟨mA, J, _⟩ := ins_get I.hok ha
  obtain ⟨od, J, _⟩ := J.look
  obtain ⟨m, hF⟩ := I.fr
  refine PySem.W.in_K hF I.ok.mod.kin J M.at_ M.fn (wpAny_mono (R X.A pins σ H s [.ref a, v] [.ref a, x] _ X.xe rfl rfl hr I (.cons rfl (.cons rx .nil)) hs) (fun r s' q => ?_) fun _ _ z => z)
  obtain ⟨z, H', I', rv, b, rfl, q⟩ := q
  cases rv
  exact wpAny_truthy_bool ⟨.bl b, H', I', rfl, q⟩
def rUnI (C : Addr) (sp : Sp) : V → Hp → VK → Prop := fun x H Q => isI H C x ∧ sp [x] H Q E0
theorem un_invI {C : Addr} (R : Runs X k f sp) (hr : Room k X.A) (M : Meth X.K C "__invert__" f) : UnR X (unaryOp .Invert) (rUnI C sp) := by
  intro pins s σ H x v Q I rx h
  obtain ⟨⟨a, dx, fs, rfl, ha⟩, hs⟩ := h
  cases rx
  obtain ⟨mA, J, _⟩ := ins_get I.hok ha
  obtain ⟨od, J, _⟩ := J.look
  obtain ⟨m, hF⟩ := I.fr
  exact PySem.W.ksp_inv hF I.ok.mod.kin J M.at_ M.fn (R X.A pins σ H s [.ref a] [.ref a] _ X.xe rfl rfl hr I (.cons rfl .nil) hs)
def notNI : V → Prop := fun _ => True
/-- an operator of two objects of the class -/
def rBinI (C : Addr) (sp : Sp) : R2 := fun x y H Q => isI H C x ∧ isI H C y ∧ sp [x, y] H Q E0
theorem back_of {Q : VK} {pins : List (Addr × Obj)} {σ : L2.St} {v : Value} {s' : Shared} (h : EP X pins σ Q v s') : PySem.W.CmpBack (EP X pins σ Q) v s' := by
  cases v <;> first | exact h | skip
  obtain ⟨v, H', I', rv, q⟩ := h
  cases v <;> first | (cases rv; done) | (obtain ⟨_, rv⟩ := rv; cases rv; done) | (exact (nomatch rv))
theorem op_binI {C : Addr} {op : Operator} (R : Runs X k f sp) (hr : Room k X.A) (hc : PySem.W.selfFirst X.K C = true) (M : Meth X.K C (PySem.dunder op.info.2) f) : OpR X (binaryOp op) (rBinI C sp) := by
  intro pins s σ H x y v u Q I rx ry h
  obtain ⟨⟨a, dx, fs, rfl, ha⟩, ⟨b, dy, gs, rfl, hb⟩, hs⟩ := h
  cases rx
  cases ry
  obtain ⟨mA, J, _⟩ := ins_get I.hok ha
  obtain ⟨od, J, _⟩ := J.look
  obtain ⟨mB, J2, _⟩ := ins_get I.hok hb
  obtain ⟨od2, J2, _⟩ := J2.look
  obtain ⟨m, hF⟩ := I.fr
  exact PySem.W.binop_K hF I.ok.mod.kin J J2.type hc M.at_ M.fn (wpAny_mono (R X.A pins σ H s [.ref a, .ref b] [.ref a, .ref b] _ X.xe rfl rfl hr I (.cons rfl (.cons rfl .nil)) hs) (fun r s' q => back_of q) fun _ _ z => z)
/-- an own ==: the other one of any type that is told -/
def tyOk (K : PySem.W.Frag) (H : Hp) (C : Addr) (y : V) : Prop := isI H C y ∨ (∃ n, TyX K H y (.type n) ∧ PySem.W.notFirst K C (.type n) = true)
theorem looks_ty {C : Addr} {pins : List (Addr × Obj)} {σ : L2.St} {H : Hp} {s : Shared} {y : V} {u : Value} (I : Inv X pins σ H s) (ry : RelV y u) (h : tyOk X.K H C y) : ∃ tb, PySem.W.Looks (model X.prog X.w) s.heap (typeOf u) tb ∧ PySem.W.notFirst X.K C tb = true := by
  rcases h with ⟨b, dy, gs, rfl, hb⟩ | ⟨n, ty, hn⟩
  · cases ry
    obtain ⟨mB, J2, _⟩ := ins_get I.hok hb
    obtain ⟨od2, J2, _⟩ := J2.look
    exact ⟨.ref C, J2.type, by simp [PySem.W.notFirst]⟩
  · obtain ⟨P, Z, p, _⟩ := kit_of I ry ty
    exact ⟨.type n, Z.ty _ _ I.kIn p, hn⟩
def rEqI (C : Addr) (K : PySem.W.Frag) (sp : Sp) : R2 := fun x y H Q => isI H C x ∧ tyOk K H C y ∧ sp [x, y] H Q E0
theorem op_eqI {C : Addr} (R : Runs X k f sp) (hr : Room k X.A) (M : Meth X.K C "__eq__" f) : OpR X (compareOp .Eq) (rEqI C X.K sp) := by
  intro pins s σ H x y v u Q I rx ry h
  obtain ⟨⟨a, dx, fs, rfl, ha⟩, ty, hs⟩ := h
  cases rx
  obtain ⟨mA, J, _⟩ := ins_get I.hok ha
  obtain ⟨od, J, _⟩ := J.look
  obtain ⟨m, hF⟩ := I.fr
  obtain ⟨tb, hb, hn⟩ := looks_ty I ry ty
  exact PySem.W.cmp_K (op := .Eq) hr.units0 hF I.ok.mod.kin J hb hn M.at_ M.fn (wpAny_mono (R X.A pins σ H s [.ref a, u] [.ref a, y] _ X.xe rfl rfl hr I (.cons rfl (.cons ry .nil)) hs) (fun r s' q => back_of q) fun _ _ z => z)
def rNeI (C : Addr) (K : PySem.W.Frag) (sp : Sp) : R2 := fun x y H Q => isI H C x ∧ tyOk K H C y ∧ sp [x, y] H (fun v H' => ∃ b, v = .bl b ∧ Q (.bl (!b)) H') E0
theorem op_neI {C : Addr} (R : Runs X k f sp) (hr : Room (k + 1) X.A) (M : Meth X.K C "__eq__" f) (hne : PySem.W.findIn X.K (.ref C) "__ne__" = some (some (.builtin "object.__ne__"))) (ho : PySem.W.subIn X.K (.ref C) (.type "object") = some true) :
    OpR X (compareOp .NotEq) (rNeI C X.K sp) := by
  intro pins s σ H x y v u Q I rx ry h
  obtain ⟨⟨a, dx, fs, rfl, ha⟩, ty, hs⟩ := h
  cases rx
  obtain ⟨mA, J, _⟩ := ins_get I.hok ha
  obtain ⟨od, J, _⟩ := J.look
  obtain ⟨m, hF⟩ := I.fr
  obtain ⟨tb, hb, hn⟩ := looks_ty I ry ty
  refine PySem.W.kh_ne hr.units0 hr.in1.units0 hF I.ok.mod.kin J hb hn hne ho M.at_ M.fn (wpAny_mono (R X.A.in1 pins σ H s [.ref a, u] [.ref a, y] _ X.xe rfl rfl hr.in1 I (.cons rfl (.cons ry .nil)) hs) (fun r s' q => ?_) fun _ _ z => z)
  obtain ⟨z, H', I', rv, b, rfl, q⟩ := q
  cases rv
  exact ⟨b, rfl, .bl (!b), H', I', rfl, q⟩
def rReprI (C : Addr) (sp : Sp) : List V → Hp → VK → Prop := fun xs H Q => ∃ x, xs = [x] ∧ isI H C x ∧ sp [x] H (fun v H' => ∃ y, v = .str y ∧ Q (.str y) H') E0
theorem call_reprI {C : Addr} (R : Runs X k f sp) (hr : Room (k + 1) X.A) (M : Meth X.K C "__repr__" f) : CallR X (.builtin "repr") (rReprI C sp) := by
  intro pins s σ H xs us Q I r h
  obtain ⟨_, rfl, ⟨a, dx, fs, rfl, ha⟩, hs⟩ := h
  obtain ⟨u, rfl, ru⟩ := r.one
  cases ru
  obtain ⟨mA, J, _⟩ := ins_get I.hok ha
  obtain ⟨od, J, _⟩ := J.look
  obtain ⟨m, hF⟩ := I.fr
  refine PySem.W.repr_K hr.in1.units0 hF I.ok.mod.kin J M.at_ M.fn (wpAny_mono (R X.A.in1 pins σ H s [.ref a] [.ref a] _ X.xe rfl rfl hr.in1 I (.cons rfl .nil) hs) (fun r s' q => ?_) fun _ _ z => z)
  obtain ⟨v, H', I', rv, n, rfl, q⟩ := q
  obtain ⟨tk, rfl⟩ := rv
  exact ⟨.str n, H', I', ⟨_, rfl⟩, q⟩
end
end Kh

set_option maxRecDepth 100000
set_option maxHeartbeats 2000000
/-! data that can be told and compared -/
namespace Kh
open PySem PySem.Spec PyProof.Rows L2
/-- short, not deep, no dict -/
structure Nice (n m : Nat) (d : PyData) : Prop where
  sh : d.leavesShort 8 = true
  wt : d.weight ≤ n
  dp : d.depth ≤ m
  sw : d.showable = true
  nd : d.hasDict = false
  cl : d.canLay0 = true
structure NiceA (n m : Nat) (ds : List PyData) : Prop where
  sh : PyData.leavesShortAll 8 ds = true
  wt : PyData.weightAll ds ≤ n
  dp : PyData.depthAll ds ≤ m
  sw : PyData.showableAll ds = true
  nd : PyData.hasDictAll ds = false
  cl : PyData.canLayAll0 ds = true
theorem Nice.mono {n m n' m' : Nat} {d : PyData} (h : Nice n m d) (hn : n ≤ n') (hm : m ≤ m') : Nice n' m' d := ⟨h.sh, Nat.le_trans h.wt hn, Nat.le_trans h.dp hm, h.sw, h.nd, h.cl⟩
theorem NiceA.mono {n m n' m' : Nat} {d : List PyData} (h : NiceA n m d) (hn : n ≤ n') (hm : m ≤ m') : NiceA n' m' d := ⟨h.sh, Nat.le_trans h.wt hn, Nat.le_trans h.dp hm, h.sw, h.nd, h.cl⟩
theorem nice_none : Nice 0 0 .none := ⟨by simp [PyData.leavesShort], by simp [PyData.weight], by simp [PyData.depth], by simp [PyData.showable], by simp [PyData.hasDict], by simp [PyData.canLay0]⟩
theorem nice_bool (b : Bool) : Nice 0 0 (.bool b) := ⟨by simp [PyData.leavesShort], by simp [PyData.weight], by simp [PyData.depth], by simp [PyData.showable], by simp [PyData.hasDict], by simp [PyData.canLay0]⟩
def smallI (n : Nat) : Bool := decide ((PyData.shown (.int (n : Nat))).length ≤ 8) && (PyData.shown (.int (n : Nat))).cps.toList.all (fun c => decide (c < 1114112)) && decide (((n : Nat) : Int).natAbs.log2 < 100)
theorem small_all : ((List.range 256).all smallI) = true := by decide +kernel
theorem small_one {n : Nat} (h : n < 256) : smallI n = true := (List.all_eq_true.mp small_all) n (List.mem_range.mpr h)
theorem nice_int {n : Nat} (h : n < 256) : Nice 100 0 (.int (n : Nat)) := by
  have q := small_one h
  unfold smallI at q
  obtain ⟨q1, q3⟩ := Bool.and_eq_true_iff.mp q
  obtain ⟨q1, q2⟩ := Bool.and_eq_true_iff.mp q1
  have q3 := of_decide_eq_true q3
  refine ⟨by rw [PyData.leavesShort]; exact q1, ?_, by simp [PyData.depth], ?_, by simp [PyData.hasDict], by simp [PyData.canLay0]⟩
  · rw [PyData.weight]; split <;> omega
  · rw [PyData.showable]; exact decide_eq_true (Nat.lt_of_lt_of_le q3 (by decide))
theorem nice_str {x : Str} {n : Nat} (h1 : ∀ c ∈ x.cps.toList, c < 1114112) (h2 : x.cps.size ≤ n) (h3 : PyData.strOk x = true) : Nice n 0 (.str x) :=
  ⟨by rw [PyData.leavesShort, List.all_eq_true]; exact fun c hc => decide_eq_true (Nat.lt_of_lt_of_le (h1 c hc) (by decide)), by rw [PyData.weight]; exact h2, by simp [PyData.depth], by simp [PyData.showable], by simp [PyData.hasDict], by rw [PyData.canLay0]; exact h3⟩
theorem niceA_nil : NiceA 0 0 [] := ⟨by simp [PyData.leavesShortAll], by simp [PyData.weightAll], by simp [PyData.depthAll], by simp [PyData.showableAll], by simp [PyData.hasDictAll], by simp [PyData.canLayAll0]⟩
theorem niceA_cons {n n' m : Nat} {d : PyData} {ds : List PyData} (h : Nice n m d) (t : NiceA n' m ds) : NiceA (n + 1 + n') m (d :: ds) := by
  refine ⟨?_, ?_, ?_, ?_, ?_, ?_⟩
  · rw [PyData.leavesShortAll, h.sh, t.sh]; rfl
  · rw [PyData.weightAll]; have := h.wt; have := t.wt; omega
  · rw [PyData.depthAll]; exact Nat.max_le.mpr ⟨h.dp, t.dp⟩
  · rw [PyData.showableAll, h.sw, t.sw]; rfl
  · rw [PyData.hasDictAll, h.nd, t.nd]; rfl
  · rw [PyData.canLayAll0, h.cl, t.cl]; rfl
theorem nice_list {n m : Nat} {ds : List PyData} (h : NiceA n m ds) : Nice n (m + 1) (.list ds) :=
  ⟨by rw [PyData.leavesShort]; exact h.sh, by rw [PyData.weight]; exact h.wt, by rw [PyData.depth]; exact Nat.succ_le_succ h.dp, by rw [PyData.showable]; exact h.sw, by rw [PyData.hasDict]; exact h.nd, by rw [PyData.canLay0]; exact h.cl⟩
theorem nice_tup {n m : Nat} {ds : List PyData} (h : NiceA n m ds) : Nice n (m + 1) (.tuple ds) :=
  ⟨by rw [PyData.leavesShort]; exact h.sh, by rw [PyData.weight]; exact h.wt, by rw [PyData.depth]; exact Nat.succ_le_succ h.dp, by rw [PyData.showable]; exact h.sw, by rw [PyData.hasDict]; exact h.nd, by rw [PyData.canLay0]; exact h.cl⟩
theorem nice_sq {n m : Nat} {b : Bool} {ds : List PyData} (h : NiceA n m ds) : Nice n (m + 1) (sq b ds) := by
  cases b with
  | true => exact nice_tup h
  | false => exact nice_list h
theorem niceA_map {α : Type} {f : α → PyData} {g : α → Nat} {m : Nat} : ∀ l : List α, (∀ x ∈ l, Nice (g x) m (f x)) → NiceA ((l.map fun x => g x + 1).sum) m (l.map f)
  | [], _ => niceA_nil.mono (Nat.le_refl _) (Nat.zero_le _)
  | x :: l, h => by
    have h1 := niceA_cons (h x List.mem_cons_self) (niceA_map l fun y hy => h y (List.mem_cons_of_mem _ hy))
    rw [List.map_cons, List.map_cons, List.sum_cons]; exact h1
theorem Nice.fits {n m : Nat} {d : PyData} (h : Nice n m d) (hn : n ≤ 1000000) : d.shown.length ≤ sizeLine := PyData.shown_fits (B := 8) (by decide) (by decide) h.sh (Nat.le_trans h.wt (Nat.le_trans hn (by decide)))
theorem Nice.shaped {n m : Nat} {d : PyData} (h : Nice n m d) (hm : m ≤ 64) : SeqAt.shaped d = true := by
  unfold SeqAt.shaped
  rw [h.cl, decide_eq_true (Nat.le_trans h.dp hm)]; rfl
/-- trees -/
theorem nice_tree : ∀ (t : T) (d : Nat), Wf t → (∀ n ∈ lv t, n < 24) → dep t ≤ d → (lv t).length ≤ 100 → Nice (siz t * 300) (2 * d) (tD t) := by
  intro t
  refine T.ind (P := fun t => ∀ d, Wf t → (∀ n ∈ lv t, n < 24) → dep t ≤ d → (lv t).length ≤ 100 → Nice (siz t * 300) (2 * d) (tD t)) (fun n d wf _ _ _ => ?_) (fun b k ps ih d wf hl dp hlen => ?_) t
  · rw [tD_leaf]
    have : n < 24 := by rw [Wf] at wf; exact wf
    exact (nice_int (by omega)).mono (by rw [siz]; omega) (Nat.zero_le _)
  · cases d with
    | zero => exact absurd dp (dep_gate0 b k ps)
    | succ d =>
      obtain ⟨k1, k2, wfs⟩ := (wf_gate b k ps).mp wf
      have dps := (dep_gate b k ps).mp dp
      rw [lv_gate] at hl hlen
      have lp : ∀ p ∈ ps, ∀ n ∈ lv p, n ∈ ps.flatMap lv := fun p hp n hn => List.mem_flatMap.mpr ⟨p, hp, hn⟩
      have ll : ∀ p ∈ ps, (lv p).length ≤ (ps.flatMap lv).length := fun p hp => by
        obtain ⟨s, t, rfl⟩ := List.append_of_mem hp
        rw [List.flatMap_append, List.flatMap_cons, List.length_append, List.length_append]; omega
      have pos : ∀ t, Wf t → 1 ≤ (lv t).length := T.ind (fun n _ => by rw [lv_leaf]; exact Nat.le_refl _) fun b k ps ih h => by
        obtain ⟨h1, h2, h3⟩ := (wf_gate b k ps).mp h
        cases ps with
        | nil => simp at h2; omega
        | cons p r =>
          rw [lv_gate, List.flatMap_cons, List.length_append]
          have := ih p List.mem_cons_self (h3 p List.mem_cons_self)
          omega
      have len : ∀ qs : List T, (∀ p ∈ qs, p ∈ ps) → qs.length ≤ (qs.flatMap lv).length := by
        intro qs
        induction qs with
        | nil => intro _; exact Nat.zero_le _
        | cons p r ih2 =>
          intro hq
          rw [List.flatMap_cons, List.length_append, List.length_cons]
          have h1 := pos p (wfs p (hq p List.mem_cons_self))
          have h2 := ih2 fun q h => hq q (List.mem_cons_of_mem _ h)
          omega
      have hlen2 := len ps fun p h => h
      have sumE : ∀ qs : List T, (qs.map fun x => siz x * 300 + 1).sum = sizs qs * 300 + qs.length := by
        intro qs
        induction qs with
        | nil => simp [sizs]
        | cons p r ih2 => rw [List.map_cons, List.sum_cons, ih2, sizs, List.length_cons, Nat.add_mul]; omega
      have parts := niceA_map (f := tD) (g := fun p => siz p * 300) (m := 2 * d) ps fun p hp => ih p hp d (wfs p hp) (fun n hn => hl n (lp p hp n hn)) (dps p hp) (Nat.le_trans (ll p hp) hlen)
      rw [sumE] at parts
      rw [tD_gate]
      have h1 := (nice_str (x := "of") (n := 2) (by decide) (by decide) (by decide +kernel)).mono (Nat.le_refl 2) (Nat.zero_le (2 * d + 1))
      have h2 := (nice_int (n := k) (by omega)).mono (Nat.le_refl 100) (Nat.zero_le (2 * d + 1))
      have all := niceA_cons h1 (niceA_cons h2 (niceA_cons (nice_sq (b := b) parts) (niceA_nil.mono (Nat.le_refl 0) (Nat.zero_le (2 * d + 1)))))
      have e : siz (.gate b k ps) = 1 + sizs ps := by rw [siz]
      refine (nice_tup all).mono ?_ (by omega)
      rw [e]; omega
/-! what is told has ordinary signs -/
def okS (x : Str) : Prop := ∀ c ∈ x.cps.toList, c < 1114112
theorem okS_ok {x : Str} (h : okS x) : PyData.strOk x = true := by
  unfold PyData.strOk
  rw [Array.all_eq_true]
  intro i hi
  exact decide_eq_true (h _ (by rw [← Array.getElem_toList hi]; exact List.getElem_mem _))
theorem nice_okS {x : Str} {n : Nat} (h : okS x) (h2 : x.cps.size ≤ n) : Nice n 0 (.str x) := nice_str h h2 (okS_ok h)
theorem okS_app {x y : Str} (h : okS x) (g : okS y) : okS (x ++ y) := fun c hc => by
  rw [show (x ++ y).cps = x.cps ++ y.cps from rfl, Array.toList_append] at hc
  rcases List.mem_append.mp hc with hc | hc
  · exact h c hc
  · exact g c hc
theorem okS_from : ∀ (ts : List Str) (k : Nat) (acc : Str), okS acc → (∀ t ∈ ts, okS t) → okS (textFrom k acc ts)
  | [], _, _, h, _ => h
  | t :: ts, k, acc, h, g => by
    refine okS_from ts (k + 1) _ (okS_app (okS_app h ?_) (g t List.mem_cons_self)) fun u hu => g u (List.mem_cons_of_mem _ hu)
    split
    · show okS ", "; exact (by unfold okS; decide)
    · show okS ""; exact (by unfold okS; decide)
theorem okS_join : ∀ (ts : List Str), (∀ t ∈ ts, okS t) → okS (Str.join ", " ts)
  | [], _ => by unfold okS; decide
  | [x], h => h x List.mem_cons_self
  | x :: y :: r, h => by
    show okS (x ++ (", " : Str) ++ Str.join ", " (y :: r))
    exact okS_app (okS_app (h x List.mem_cons_self) (by unfold okS; decide)) (okS_join (y :: r) fun u hu => h u (List.mem_cons_of_mem _ hu))
theorem okS_list {ts : List Str} (h : ∀ t ∈ ts, okS t) : okS (listText ts) := okS_app (okS_from ts 0 _ (by unfold okS; decide) h) (by unfold okS; decide)
theorem okS_tup {ts : List Str} (h : ∀ t ∈ ts, okS t) : okS (tupleText ts) := by
  unfold tupleText
  refine okS_app (okS_app (by unfold okS; decide) (okS_join ts h)) ?_
  split
  · show okS ",)"; unfold okS; decide
  · show okS ")"; unfold okS; decide
theorem shownAll_mem : ∀ {ds : List PyData} {x : Str}, x ∈ PyData.shownAll ds → ∃ d ∈ ds, x = PyData.shown d
  | [], _, h => by rw [PyData.shownAll] at h; cases h
  | d :: ds, x, h => by
    rw [PyData.shownAll] at h
    rcases List.mem_cons.mp h with rfl | h
    · exact ⟨d, List.mem_cons_self, rfl⟩
    · obtain ⟨e, he, rfl⟩ := shownAll_mem h
      exact ⟨e, List.mem_cons_of_mem _ he, rfl⟩
theorem okS_int {n : Nat} (h : n < 256) : okS (PyData.shown (.int (n : Nat))) := by
  have q := small_one h
  unfold smallI at q
  obtain ⟨q1, q3⟩ := Bool.and_eq_true_iff.mp q
  obtain ⟨q1, q2⟩ := Bool.and_eq_true_iff.mp q1
  exact fun c hc => of_decide_eq_true (List.all_eq_true.mp q2 c hc)
theorem tpos : ∀ t, Wf t → 1 ≤ (lv t).length := T.ind (fun n _ => by rw [lv_leaf]; exact Nat.le_refl _) fun b k ps ih h => by
  obtain ⟨h1, h2, h3⟩ := (wf_gate b k ps).mp h
  cases ps with
  | nil => simp at h2; omega
  | cons p r =>
    rw [lv_gate, List.flatMap_cons, List.length_append]
    have := ih p List.mem_cons_self (h3 p List.mem_cons_self)
    omega
theorem tlen : ∀ ps : List T, (∀ p ∈ ps, Wf p) → ps.length ≤ (ps.flatMap lv).length
  | [], _ => Nat.zero_le _
  | p :: r, h => by
    rw [List.flatMap_cons, List.length_append, List.length_cons]
    have h1 := tpos p (h p List.mem_cons_self)
    have h2 := tlen r fun q hq => h q (List.mem_cons_of_mem _ hq)
    omega
theorem tpart {ps : List T} {p : T} (hp : p ∈ ps) : (lv p).length ≤ (ps.flatMap lv).length := by
  obtain ⟨s, t, rfl⟩ := List.append_of_mem hp
  rw [List.flatMap_append, List.flatMap_cons, List.length_append, List.length_append]; omega
theorem okS_tree : ∀ t : T, Wf t → (lv t).length ≤ 100 → okS (PyData.shown (tD t)) := by
  intro t
  refine T.ind (P := fun t => Wf t → (lv t).length ≤ 100 → okS (PyData.shown (tD t))) (fun n wf _ => ?_) (fun b k ps ih wf hlen => ?_) t
  · rw [tD_leaf]
    have : n < 24 := by rw [Wf] at wf; exact wf
    exact okS_int (by omega)
  · obtain ⟨k1, k2, wfs⟩ := (wf_gate b k ps).mp wf
    rw [lv_gate] at hlen
    have hl := tlen ps wfs
    have parts : ∀ x ∈ PyData.shownAll (ps.map tD), okS x := fun x hx => by
      obtain ⟨d, hd, rfl⟩ := shownAll_mem hx
      obtain ⟨p, hp, rfl⟩ := List.mem_map.mp hd
      exact ih p hp (wfs p hp) (Nat.le_trans (tpart hp) hlen)
    rw [tD_gate, PyData.shown]
    refine okS_tup fun x hx => ?_
    obtain ⟨d, hd, rfl⟩ := shownAll_mem hx
    rcases List.mem_cons.mp hd with rfl | hd
    · rw [PyData.shown]; unfold okS; decide +kernel
    rcases List.mem_cons.mp hd with rfl | hd
    · exact okS_int (by omega)
    rcases List.mem_cons.mp hd with rfl | hd
    · cases b with
      | true => show okS (PyData.shown (.tuple _)); rw [PyData.shown]; exact okS_tup parts
      | false => show okS (PyData.shown (.list _)); rw [PyData.shown]; exact okS_list parts
    · cases hd
/-! equal data of trees -/
theorem eqvAll_refl : ∀ {ds : List PyData}, (∀ d ∈ ds, PyData.eqv d d = true) → PyData.eqvAll ds ds = true
  | [], _ => by rw [PyData.eqvAll]
  | d :: ds, h => by rw [PyData.eqvAll, h d List.mem_cons_self, eqvAll_refl fun e he => h e (List.mem_cons_of_mem _ he)]; rfl
theorem eqv_int (i : Int) : PyData.eqv (.int i) (.int i) = true := by rw [PyData.eqv]; exact beq_self_eq_true i
theorem eqv_str (x : Str) : PyData.eqv (.str x) (.str x) = true := by rw [PyData.eqv]; exact beq_self_eq_true x
theorem eqv_bool (b : Bool) : PyData.eqv (.bool b) (.bool b) = true := by rw [PyData.eqv]; exact beq_self_eq_true b
theorem eqv_list {ds : List PyData} (h : ∀ d ∈ ds, PyData.eqv d d = true) : PyData.eqv (.list ds) (.list ds) = true := by rw [PyData.eqv]; exact eqvAll_refl h
theorem eqv_tup {ds : List PyData} (h : ∀ d ∈ ds, PyData.eqv d d = true) : PyData.eqv (.tuple ds) (.tuple ds) = true := by rw [PyData.eqv]; exact eqvAll_refl h
theorem eqv_tree : ∀ t : T, PyData.eqv (tD t) (tD t) = true := T.ind (fun n => by rw [tD_leaf]; exact eqv_int _) fun b k ps ih => by
  have parts : ∀ d ∈ ps.map tD, PyData.eqv d d = true := fun d hd => by
    obtain ⟨p, hp, rfl⟩ := List.mem_map.mp hd
    exact ih p hp
  rw [tD_gate]
  refine eqv_tup fun d hd => ?_
  rcases List.mem_cons.mp hd with rfl | hd
  · exact eqv_str _
  rcases List.mem_cons.mp hd with rfl | hd
  · exact eqv_int _
  rcases List.mem_cons.mp hd with rfl | hd
  · cases b with
    | true => exact eqv_tup parts
    | false => exact eqv_list parts
  · cases hd
/-- trees that are equal are the same -/
theorem eqv_same : ∀ t u : T, PyData.eqv (tD t) (tD u) = true → t = u := by
  intro t
  refine T.ind (P := fun t => ∀ u, PyData.eqv (tD t) (tD u) = true → t = u) (fun n u h => ?_) (fun b k ps ih u h => ?_) t
  · cases u with
    | leaf m =>
      rw [tD_leaf, tD_leaf, PyData.eqv] at h
      have := beq_iff_eq.mp h
      rw [show n = m by omega]
    | gate b k ps => rw [tD_leaf, tD_gate, PyData.eqv] at h; cases h
  · cases u with
    | leaf m => rw [tD_leaf, tD_gate, PyData.eqv] at h; cases h
    | gate c l qs =>
      rw [tD_gate, tD_gate, PyData.eqv, PyData.eqvAll, PyData.eqvAll, PyData.eqvAll] at h
      obtain ⟨_, h⟩ := Bool.and_eq_true_iff.mp h
      obtain ⟨h1, h⟩ := Bool.and_eq_true_iff.mp h
      obtain ⟨h2, _⟩ := Bool.and_eq_true_iff.mp h
      rw [PyData.eqv] at h1
      have e1 : k = l := by have := beq_iff_eq.mp h1; omega
      have go : ∀ xs ys : List T, (∀ p ∈ xs, ∀ u, PyData.eqv (tD p) (tD u) = true → p = u) → PyData.eqvAll (xs.map tD) (ys.map tD) = true → xs = ys := by
        intro xs
        induction xs with
        | nil =>
          intro ys _ h
          cases ys with
          | nil => rfl
          | cons y ys => rw [List.map_nil, List.map_cons, PyData.eqvAll] at h; cases h
        | cons x xs ih2 =>
          intro ys hx h
          cases ys with
          | nil => rw [List.map_nil, List.map_cons, PyData.eqvAll] at h; cases h
          | cons y ys =>
            rw [List.map_cons, List.map_cons, PyData.eqvAll] at h
            obtain ⟨g1, g2⟩ := Bool.and_eq_true_iff.mp h
            rw [hx x List.mem_cons_self y g1, ih2 ys (fun p hp => hx p (List.mem_cons_of_mem _ hp)) g2]
      cases b with
      | true =>
        cases c with
        | true =>
          have h2' : PyData.eqv (.tuple (ps.map tD)) (.tuple (qs.map tD)) = true := h2
          rw [PyData.eqv] at h2'
          rw [e1, go ps qs ih h2']
        | false =>
          have h2' : PyData.eqv (.tuple (ps.map tD)) (.list (qs.map tD)) = true := h2
          rw [PyData.eqv] at h2'; cases h2'
      | false =>
        cases c with
        | true =>
          have h2' : PyData.eqv (.list (ps.map tD)) (.tuple (qs.map tD)) = true := h2
          rw [PyData.eqv] at h2'; cases h2'
        | false =>
          have h2' : PyData.eqv (.list (ps.map tD)) (.list (qs.map tD)) = true := h2
          rw [PyData.eqv] at h2'
          rw [e1, go ps qs ih h2']
open Classical in
noncomputable def sameT (t u : T) : Bool := decide (t = u)
open Classical in
theorem eqv_sameT (t u : T) : PyData.eqv (tD t) (tD u) = sameT t u := by
  unfold sameT
  by_cases q : t = u
  · subst q; rw [eqv_tree, decide_eq_true rfl]
  · rw [decide_eq_false q]
    cases h : PyData.eqv (tD t) (tD u) with
    | false => rfl
    | true => exact (q (eqv_same t u h)).elim
end Kh

set_option maxRecDepth 100000
set_option maxHeartbeats 4000000
/-! set(list of whole numbers), sorted(set(..)), len(set(..)) -/
namespace Kh
open PySem PySem.Spec PyProof.Rows L2
section
variable {P : Program} {w : World} {B : Around} {X0 : Value → Shared → Prop} {z : Shared}
/-- set(l), l a list of whole numbers -/
theorem set_of_list {l : Addr} {js : Array Value} (ks : List Int) {R0 : Value → Shared → Prop} (nh : B.handled = none) (isl : z.heap.IsList l js) (insA : IntsAre js.toList ks) (few : ks.length + 1 < scanBound)
    (fin : ∀ (g1 : Heap) (tk c : Nat), SetR w g1 z.heap.objs.size (fun j => decide (j ∈ ks)) c → c ≤ ks.length → (∀ b o, z.heap.get? b = some o → g1.get? b = some o) → R0 (.ref z.heap.objs.size) { z with heap := g1, toks := tk }) :
    wpAny (model P w) B (call (.type "set") [.ref l]) R0 X0 z := by
  have jl : js.size = ks.length := by
    have q := IntsAre.length insA
    rwa [Array.length_toList] at q
  obtain ⟨_, _, hmro⟩ := F.called_set.mro
  have m1 := F.called_set.made
  have m2 := F.called_set.sub
  refine wpAny_call (codeAny_of_tree ?_)
  show wpAny _ _ (callAny (Value.type "set") _) _ _ _
  refine wpAny_pure ⟨(Code.quiet_builtin _ (by decide +kernel)), (codeAny_builtin F.entry_type_call ?_)⟩
  rw [(Around.under_plain (weight_type_call_type "set" [.ref l] []) rfl)]
  have m3 := F.called_set.notType
  have m4 := F.called_set.canCreate
  have m5 := F.typeCall_set_1 (.ref l)
  repeat any_goals first | assumption | wp_step
  refine codeAny_mono (code_set_led1 (.ref l) (E := X0) (Q₁ := fun ob z1 => ob = .ref z.heap.objs.size ∧ z1 = { z with heap := z.heap.push { cls := .type "set", dict := none, data := .set #[] 0 (.fresh 0 0 (!w.params.followText "set-order")) } }) ⟨rfl, rfl⟩) fun r z1 hr => ?_
  cases r with
  | error e => exact hr
  | ok fl =>
    cases fl with
    | ret ob =>
      obtain ⟨rfl, rfl⟩ := hr
      have n1 : (z.heap.push { cls := .type "set", dict := none, data := .set #[] 0 (.fresh 0 0 (!w.params.followText "set-order")) }).get? z.heap.objs.size = some { cls := .type "set", dict := none, data := .set #[] 0 (.fresh 0 0 (!w.params.followText "set-order")) } := Heap.get?_push_size _ rfl
      have n2 : Shared.TypeIs { z with heap := z.heap.push { cls := .type "set", dict := none, data := .set #[] 0 (.fresh 0 0 (!w.params.followText "set-order")) } } (.ref z.heap.objs.size) "set" := ⟨_, n1, rfl⟩
      have n3 := F.called_set.init.lookup
      have n4 := F.called_set.init.bind (.ref z.heap.objs.size)
      repeat any_goals first | assumption | wp_step
      refine codeAny_mono (codeAny_call_builtin (R := wants (fun r z2 => r = .none ∧ ∃ g1 tk c, z2 = { z with heap := g1, toks := tk } ∧ SetR w g1 z.heap.objs.size (fun j => decide (j ∈ ks)) c ∧ c ≤ ks.length ∧ (∀ b o, z.heap.get? b = some o → g1.get? b = some o)) X0)
          F.called_set.init.plain F.entry_set_init (check_set_init_1 n2 ?_)) fun r₂ z2 hr₂ => ?_
      · obtain ⟨ol, hol, hcl, nl, hdl⟩ := isl
        obtain ⟨oc, od, odt, os⟩ := ol
        simp only at hcl hdl
        subst hcl; subst hdl
        have hol' : (z.heap.push { cls := .type "set", dict := none, data := .set #[] 0 (.fresh 0 0 (!w.params.followText "set-order")) }).get? l = some { cls := .type "list", dict := od, data := .seq js nl, slots := os } := Heap.get?_push_of_some _ hol
        have p1 := F.sub_list_set
        have p2 := F.sub_list_frozenset
        have p3 : (Value.type "list" == Value.type "dict") = false := by decide
        have p4 : (z.heap.push { cls := .type "set", dict := none, data := .set #[] 0 (.fresh 0 0 (!w.params.followText "set-order")) }).IsList l js := ⟨_, hol', rfl, nl, rfl⟩
        unfold Builtin.«set.__init__»
        unfold noKeywords
        unfold Builtin.Frozenset.updateFrom
        generalize hPI : pyIter = PI
        wp_walk
        subst hPI
        refine wpAny_pyIter_list p4 ?_
        refine wpAny_bind (wpAny_runValue ?_)
        have ls : l < z.heap.objs.size := Heap.lt_size hol
        have p5 : B.in1.in1.in1.handled = none := by simp [nh]
        have p6 : l ≠ (z.heap.push { cls := .type "set", dict := none, data := .set #[] 0 (.fresh 0 0 (!w.params.followText "set-order")) }).objs.size := by
          rw [Heap.size_push]
          exact Nat.ne_of_lt (Nat.lt_succ_of_lt ls)
        have p7 : z.heap.objs.size ∉ [(z.heap.push { cls := .type "set", dict := none, data := .set #[] 0 (.fresh 0 0 (!w.params.followText "set-order")) }).objs.size, l] := by
          rw [Heap.size_push]
          simp only [List.mem_cons, List.not_mem_nil, or_false, not_or]
          exact ⟨Nat.ne_of_lt (Nat.lt_succ_self _), Nat.ne_of_gt ls⟩
        have p8 : ∀ (i : Nat) (v : Value), js[i]? = some v → ∃ k t, ks[i]? = some k ∧ v = .int k t := fun i v hv => by
          have hi : i < ks.length := by rw [← jl]; exact (Array.getElem?_eq_some_iff.mp hv).1
          obtain ⟨t, e⟩ := PyProof.Rows.IntsAre.int_at insA i v (by rw [Array.getElem?_toList]; exact hv)
          refine ⟨ks[i], t, List.getElem?_eq_getElem hi, ?_⟩
          rw [e, List.getD_eq_getElem?_getD, List.getElem?_eq_getElem hi] <;> rfl
        refine set_update_ints ((Walks.list p5 _ l p6 js).toS) z.heap.objs.size p7 ks jl few p8 (js.size - 0) 0 _ (by omega) (Nat.zero_le _) ⟨⟨_, Heap.get?_push_size _ rfl, rfl, rfl⟩, (p4.push _)⟩ ?empty ?whole
        case empty =>
          have hget : ((z.heap.push { cls := .type "set", dict := none, data := .set #[] 0 (.fresh 0 0 (!w.params.followText "set-order")) }).push { cls := .type "list_iterator", data := .fields #[.ref l, .int 0 0] }).get? z.heap.objs.size = some { cls := .type "set", dict := none, data := .set #[] 0 (.fresh 0 0 (!w.params.followText "set-order")) } := Heap.get?_push_of_some _ n1
          exact ⟨0, Nat.le_refl 0, setR_new_at hget⟩
        case whole =>
          intro z3 c3 hm hc3 hS3
          obtain ⟨g1, g2, d3, tk3, os3⟩ := z3
          have eg : g2 = z.gens := hm.gens
          have ed : d3 = z.drawn := hm.drawn
          have eo : os3 = z.os := hm.os
          subst eg; subst ed; subst eo
          show wpAny _ _ _ _ _ _
          refine wpAny_pure ?_
          show wpAny _ _ (ret (Value.none)) _ _ _
          rw [jl] at hc3
          refine wpAny_pure ⟨rfl, g1, tk3, c3, rfl, hS3, hc3, fun b o e => ?_⟩
          have b0 : b < z.heap.objs.size := Heap.lt_size e
          have b2 : b ≠ (z.heap.push { cls := .type "set", dict := none, data := .set #[] 0 (.fresh 0 0 (!w.params.followText "set-order")) }).objs.size := by rw [Heap.size_push]; exact Nat.ne_of_lt (Nat.lt_succ_of_lt b0)
          exact hm.heap b o (by simp only [List.mem_cons, List.mem_singleton, List.not_mem_nil, or_false, not_or]; exact ⟨Nat.ne_of_lt b0, b2⟩) (Heap.get?_push_of_some _ (Heap.get?_push_of_some _ e))
      · cases r₂ with
        | error e => exact hr₂
        | ok fl₂ =>
          cases fl₂ with
          | ret r =>
            obtain ⟨rfl, g1, tk, c', rfl, hS', hc', hk'⟩ := hr₂
            repeat any_goals first | assumption | wp_step
            exact fin _ _ _ hS' hc' hk'
          | _ => exact hr₂.elim
    | _ => exact hr.elim
end
section
variable {X : Cx}
/-- set(xs), xs a list of ints -/
def rSetOf (K : PySem.W.Frag) (w : World) : List V → Hp → VK → Prop := fun vs H Q => ∃ (l : Addr) (ks : List Int), vs = [V.ref l] ∧ SqL K H l (ks.map V.int) ∧ ks.length ≤ 1000 ∧
  ∀ (p : Addr) (n : Nat), H p = none → n ≤ ks.length → Q (.ref p) (upd H p (SetO w p (fun j => decide (j ∈ ks)) n))
theorem cr_setOf (hc : X.calm = true) : CallR X (.type "set") (rSetOf X.K X.w) := by
  intro pins s σ H xs us Q I r h
  obtain ⟨l, ks, rfl, hs, hz, q⟩ := h
  obtain ⟨u, rfl, ru⟩ := r.one
  cases ru
  obtain ⟨its, rv, ⟨⟨cls, dd, data, sl⟩, n, ho, hcl, hdn, hd⟩, hlen⟩ := I.list hs
  refine set_of_list (js := its.toArray) ks (I.ok.hd hc) ⟨_, ho, hcl, n, hd⟩ (by simpa using ints_of_vals rv) (Nat.lt_of_le_of_lt (show ks.length + 1 ≤ 1001 by omega) (by decide)) fun g1 tk c hS hc kp => ?_
  exact ⟨.ref _, upd H s.heap.objs.size (SetO X.w s.heap.objs.size (fun j => decide (j ∈ ks)) c), I.laid (t' := tk) kp (Nat.le_refl _) (setO_new hS), rfl, q _ c (I.hok.fresh (Nat.le_refl _)) hc⟩
end
end Kh

set_option maxRecDepth 100000
set_option maxHeartbeats 1000000
/-! for over data -/
namespace Kh
open PySem PySem.Spec PyProof.Rows L2
theorem s_for {K : PySem.W.Frag} {S : Addr → Prop} {H : Hp} {σ : L2.St} {t : TE} {g : TG} {tb : TS} {D : Ends} {b : Bool} {ds : List PyData} (kn : Kn S H)
    (hev : ∀ Q : VK, (∀ u H1, Same H H1 → Dp K (off S H1) u (sq b ds) → Q u H1) → t σ H Q)
    (step : ∀ xs H1, Same H H1 → Kn S H1 → DpAll K (off S H1) xs ds → xs.length = ds.length → ∃ Pv : Nat → L2.St → Hp → Prop, Pv 0 σ H1 ∧ (∀ i σ' H', i ≤ ds.length → Pv i σ' H' → Same (off S H1) H') ∧
      (∀ i x d σ' H', ds[i]? = some d → Dp K (off S H1) x d → Pv i σ' H' → g x σ' H' fun σ2 H2 => tb { D with nx := Pv (i + 1), ct := Pv (i + 1), bk := D.nx } σ2 H2) ∧ (∀ σ' H', Pv ds.length σ' H' → D.nx σ' H')) :
    tFor (fun σ H R => iList K t σ H R ∨ iTup K t σ H R) g tb D σ H := by
  refine it_any hev fun J xs H1 s1 ha w => ?_
  have ln := dpa_len ha
  obtain ⟨Pv, h0, hG, hs, hd⟩ := step xs H1 s1 (kn.same s1) ha ln
  refine for_it w Pv h0 (fun i σ' H' hi p => hG i σ' H' (by omega) p) (fun i x σ' H2 H3 hi p y => ?_) (fun σ' H' p => hd σ' H' (by rw [← ln]; exact p))
  obtain ⟨rfl, xi⟩ := y
  obtain ⟨d, di, dx⟩ := dpa_at ha xi
  exact hs i x d σ' H3 di dx p
section
variable {σ : L2.St} {H : Hp} {Q : VK} {D : Ends} {te : TE} {i : Nat} {v : V}
theorem g_name {k : L2.St → Hp → Prop} (h : k (σ.set i (some v)) H) : gName i v σ H k := h
end
/-- an int list by its strictly rising order -/
theorem rise_eq : ∀ {xs ys : List Int}, xs.Pairwise (· < ·) → ys.Pairwise (· < ·) → (∀ k, k ∈ xs ↔ k ∈ ys) → xs = ys
  | [], [], _, _, _ => rfl
  | [], y :: ys, _, _, h => by have := (h y).mpr List.mem_cons_self; cases this
  | x :: xs, [], _, _, h => by have := (h x).mp List.mem_cons_self; cases this
  | x :: xs, y :: ys, hx, hy, h => by
    have hx' := List.pairwise_cons.mp hx
    have hy' := List.pairwise_cons.mp hy
    have e : x = y := by
      have h1 := (h x).mp List.mem_cons_self
      have h2 := (h y).mpr List.mem_cons_self
      rcases List.mem_cons.mp h1 with h1 | h1
      · exact h1
      · rcases List.mem_cons.mp h2 with h2 | h2
        · exact h2.symm
        · have a1 := hy'.1 x h1
          have a2 := hx'.1 y h2
          omega
    subst e
    have t : xs = ys := rise_eq hx'.2 hy'.2 fun k => by
      constructor
      · intro hk
        rcases List.mem_cons.mp ((h k).mp (List.mem_cons_of_mem _ hk)) with e | e
        · subst e; exact absurd (hx'.1 k hk) (by omega)
        · exact e
      · intro hk
        rcases List.mem_cons.mp ((h k).mpr (List.mem_cons_of_mem _ hk)) with e | e
        · subst e; exact absurd (hy'.1 k hk) (by omega)
        · exact e
    rw [t]
/-- len(s), s a set of ints -/
def rLenSet (w : World) : List V → Hp → VK → Prop := fun vs H Q => ∃ (a : Addr) (S : Int → Bool) (n : Nat), vs = [V.ref a] ∧ H a = some (SetO w a S n) ∧ n ≤ 1000 ∧
  ∀ ns : List Int, ns.Nodup → (∀ k, k ∈ ns ↔ S k = true) → ns.length = n → Q (.int (n : Nat)) H
theorem cr_lenSet {X : Cx} : CallR X (.builtin "len") (rLenSet X.w) := by
  intro pins s σ H xs us Q I r h
  obtain ⟨a, S, n, rfl, ha, hz, q⟩ := h
  obtain ⟨u, rfl, ru⟩ := r.one
  cases ru
  obtain ⟨o, es, ep, t, ho, hex, hd, hg, hnd, hk, hb, hf, hn, _⟩ := setO_get I ha
  exact call_len_set ho hex hd hf (by omega) ⟨.int n, H, I.tok _, ⟨_, by rw [hn]⟩, q _ hnd (fun k => (hk k).symm) (by rw [List.length_map, Array.length_toList]; exact hn)⟩
end Kh

set_option maxRecDepth 100000
set_option maxHeartbeats 1000000
/-! sorted of a list of data -/
namespace Kh
open PySem PySem.Spec PyProof.Rows L2
def rSortD (K : PySem.W.Frag) : List V → Hp → VK → Prop := fun vs H Q => ∃ (a : Addr) (xs : List V) (ds : List PyData), vs = [V.ref a] ∧ SqL K H a xs ∧ DpAll K H xs ds ∧ PySem.W.AllAlike ds ∧ PySem.W.Sortable ds ∧ (∀ d ∈ ds, d.depth ≤ 60) ∧
  ∀ (p : Addr) (bs : List (V × PyData)), H p = none → bs.Perm (xs.zip ds) → Q (.ref p) (upd H p (.lst (bs.map Prod.fst)))
theorem zip_mem_dp {K : PySem.W.Frag} {H : Hp} : ∀ {xs : List V} {ds : List PyData}, DpAll K H xs ds → ∀ b ∈ xs.zip ds, Dp K H b.1 b.2
  | _, _, .nil, b, hb => by simp at hb
  | _, _, .cons h t, b, hb => by
    rw [List.zip_cons_cons] at hb
    rcases List.mem_cons.mp hb with rfl | hb
    · exact h
    · exact zip_mem_dp t b hb
theorem zip_snd {K : PySem.W.Frag} {H : Hp} {xs : List V} {ds : List PyData} (h : DpAll K H xs ds) : (xs.zip ds).map Prod.snd = ds := List.map_snd_zip (by rw [dpa_len h]; exact Nat.le_refl _)
theorem zip_fst {K : PySem.W.Frag} {H : Hp} {xs : List V} {ds : List PyData} (h : DpAll K H xs ds) : (xs.zip ds).map Prod.fst = xs := List.map_fst_zip (by rw [dpa_len h]; exact Nat.le_refl _)
theorem each_rel : ∀ {xs : List V} {us : List Value} {ds : List PyData}, Vals xs us → xs.length = ds.length → PySem.W.EachIs (fun (v : Value) (b : V × PyData) => RelV b.1 v) us (xs.zip ds)
  | [], _, [], .nil, _ => .nil
  | x :: xs, _, d :: ds, .cons r t, h => .cons r (each_rel t (by simpa using h))
  | [], _, _ :: _, _, h => by simp at h
  | _ :: _, _, [], _, h => by simp at h
theorem each_vals : ∀ {us : List Value} {bs : List (V × PyData)}, PySem.W.EachIs (fun (v : Value) (b : V × PyData) => RelV b.1 v) us bs → Vals (bs.map Prod.fst) us
  | _, _, .nil => .nil
  | _, _, .cons r t => .cons r (each_vals t)
theorem each_and {α β : Type} {R S : α → β → Prop} : ∀ {us : List α} {bs : List β}, PySem.W.EachIs R us bs → (∀ u b, b ∈ bs → R u b → S u b) → PySem.W.EachIs S us bs
  | _, _, .nil, _ => .nil
  | _, _, .cons r t, h => .cons (h _ _ List.mem_cons_self r) (each_and t fun u b hb => h u b (List.mem_cons_of_mem _ hb))
theorem cr_sortD {X : Cx} (hu : X.A.units + 64 < cLine) : CallR X (.builtin "sorted") (rSortD X.K) := by
  intro pins s σ H vs us Q I r h
  obtain ⟨a, xs, ds, rfl, hs, hd, hal, hk, hdp, q⟩ := h
  obtain ⟨u, rfl, ru⟩ := r.one
  cases ru
  obtain ⟨its, rv, hl, hz⟩ := I.list hs
  have e := each_rel rv (dpa_len hd)
  have er : PySem.W.EachIs (fun (v : Value) (b : V × PyData) => ∃ as, Reads s.heap v b.2 as) its (xs.zip ds) := each_and e fun u b hb ru => Dp.reads I b.2 b.1 u (zip_mem_dp hd b hb) ru
  have hlen : (xs.zip ds).length = xs.length := by rw [List.length_zip, dpa_len hd]; omega
  refine PySem.W.sorted_data (enc := Prod.snd) hl.isList e er (by rw [zip_snd hd]; exact hal) (by rw [zip_snd hd]; exact hk) (by rw [hlen]; exact hz) (fun b hb => ?_) fun out ho eo => ?_
  · have hm : b.2 ∈ ds := by
      have h1 : b.2 ∈ (xs.zip ds).map Prod.snd := List.mem_map_of_mem hb
      rwa [zip_snd hd] at h1
    have := hdp _ hm
    omega
  · have hp := List.mergeSort_perm (xs.zip ds) (PySem.W.dataLe false Prod.snd)
    have hv := each_vals eo
    obtain ⟨n, hn⟩ := sortedAll_at s.heap its (List.toArray out)
    refine ⟨.ref (s.heap.objs.size + 1), upd H (s.heap.objs.size + 1) (.lst (((xs.zip ds).mergeSort (PySem.W.dataLe false Prod.snd)).map Prod.fst)), I.laid (t' := s.toks) (fun b o z => sortedAll_old z) (Nat.le_succ _) ⟨?_, out, n, hv, hn⟩, rfl, q _ _ (I.hok.fresh (Nat.le_succ _)) hp⟩
    rw [List.length_map, hp.length_eq, hlen]; exact hz
/-- xs + ys, lists of any kind -/
def rCatS (K : PySem.W.Frag) : R2 := fun x y H Q => ∃ l b xs zs, x = .ref l ∧ y = .ref b ∧ SqL K H l xs ∧ SqL K H b zs ∧ xs.length + zs.length ≤ sizeLine ∧ ∀ p, H p = none → Q (.ref p) (upd H p (.lst (xs ++ zs)))
theorem op_catS {X : Cx} : OpR X (binaryOp .Add) (rCatS X.K) := by
  intro pins s σ H x y v u Q I rx ry h
  obtain ⟨l, b, xs, zs, rfl, rfl, hH, hB, hz, q⟩ := h
  cases rx
  cases ry
  obtain ⟨its, r, ⟨⟨c1, d1, t1, o1⟩, n1, g1, a1, a2, a3⟩, _⟩ := I.list hH
  obtain ⟨its2, r2, ⟨⟨c2, d2, t2, o2⟩, n2, g2, b1, b2, b3⟩, _⟩ := I.list hB
  simp only at a1 a2 a3 b1 b2 b3
  subst a1; subst a2; subst a3; subst b1; subst b2; subst b3
  refine concat_meets ⟨_, g1, rfl⟩ ⟨_, g2, rfl⟩ noFill_list_add seq_list_add PySem.F.slot_list_add PySem.F.entry_list_add (PySem.F.args_list_add_2 _ _) (list_addW l b its.toArray its2.toArray n1 n2 none none o1 o2 (by rw [List.size_toArray, List.size_toArray, ← r.length, ← r2.length]; exact hz)) ⟨g1, g2, ?_⟩
  have ea : its.toArray ++ its2.toArray = (its ++ its2).toArray := by simp
  rw [ea]
  exact ⟨.ref _, _, I.lnew (t' := s.toks) (r.append r2) (by rw [List.length_append]; exact hz), rfl, q _ I.fresh⟩
section
variable {X : Cx} {K : PySem.W.Frag}
theorem k_catS (h : X.K = K := by rfl) : OpR X (binaryOp .Add) (rCatS K) := by subst h; exact op_catS
theorem k_sortD (hu : X.A.units + 64 < cLine) (h : X.K = K := by rfl) : CallR X (.builtin "sorted") (rSortD K) := by subst h; exact cr_sortD hu
theorem k_setOf (hc : X.calm = true) (h : X.K = K := by rfl) : CallR X (.type "set") (rSetOf K X.w) := by subst h; exact cr_setOf hc
end
theorem cat_d {K : PySem.W.Frag} {S : Addr → Prop} {H : Hp} {x y : V} {ds es : List PyData} {Q : VK} (kn : Kn S H) (hx : Dp K (off S H) x (.list ds)) (hy : Dp K (off S H) y (.list es)) (hz : ds.length + es.length ≤ 100000)
    (q : ∀ u H', Same H H' → Dp K (off S H') u (.list (ds ++ es)) → Q u H') : rCatS K x y H Q := by
  obtain ⟨l, xs, rfl, h1, d1⟩ := list_at hx
  obtain ⟨b, zs, rfl, h2, d2⟩ := list_at hy
  refine ⟨l, b, xs, zs, rfl, rfl, off_sub.seq h1, off_sub.seq h2, ?_, fun p hp => q _ _ (same_new hp) (dp_newL kn hp (dpa_app d1 d2))⟩
  rw [dpa_len d1, dpa_len d2]
  exact Nat.le_trans hz (by decide)
theorem sort_d {K : PySem.W.Frag} {S : Addr → Prop} {H : Hp} {x : V} {ds : List PyData} {Q : VK} (kn : Kn S H) (hx : Dp K (off S H) x (.list ds)) (hal : PySem.W.AllAlike ds) (hk : PySem.W.Sortable ds) (hdp : ∀ d ∈ ds, d.depth ≤ 60)
    (q : ∀ u H' es, Same H H' → es.Perm ds → Dp K (off S H') u (.list es) → Q u H') : rSortD K [x] H Q := by
  obtain ⟨l, xs, rfl, h1, d1⟩ := list_at hx
  refine ⟨l, xs, ds, rfl, off_sub.seq h1, dpa_same off_sub _ _ d1, hal, hk, hdp, fun p bs hp pm => ?_⟩
  have pe := pm.map Prod.snd
  rw [zip_snd d1] at pe
  refine q _ _ (bs.map Prod.snd) (same_new hp) pe (dp_newL kn hp ?_)
  have go : ∀ cs : List (V × PyData), (∀ b ∈ cs, b ∈ xs.zip ds) → DpAll K (off S H) (cs.map Prod.fst) (cs.map Prod.snd) := by
    intro cs
    induction cs with
    | nil => intro _; exact .nil
    | cons c cs ih => intro h; exact .cons (zip_mem_dp d1 c (h c List.mem_cons_self)) (ih fun b hb => h b (List.mem_cons_of_mem _ hb))
  exact go bs fun b hb => pm.mem_iff.mp hb
end Kh

set_option maxRecDepth 100000
set_option maxHeartbeats 1000000
/-! sorted of a list of data, the very list -/
namespace Kh
open PySem PySem.Spec PyProof.Rows L2
abbrev leD : PyData → PyData → Bool := PySem.W.dataLe false fun d : PyData => d
theorem leD_total : PySem.W.TotalLe leD := PySem.W.sortLe_total _ _ _
def rSortM (K : PySem.W.Frag) : List V → Hp → VK → Prop := fun vs H Q => ∃ (a : Addr) (xs : List V) (ds : List PyData), vs = [V.ref a] ∧ SqL K H a xs ∧ DpAll K H xs ds ∧ PySem.W.AllAlike ds ∧ PySem.W.Sortable ds ∧ (∀ d ∈ ds, d.depth ≤ 60) ∧
  ∀ (p : Addr) (bs : List (V × PyData)), H p = none → bs.Perm (xs.zip ds) → bs.map Prod.snd = ds.mergeSort leD → Q (.ref p) (upd H p (.lst (bs.map Prod.fst)))
theorem cr_sortM {X : Cx} (hu : X.A.units + 64 < cLine) : CallR X (.builtin "sorted") (rSortM X.K) := by
  intro pins s σ H vs us Q I r h
  obtain ⟨a, xs, ds, rfl, hs, hd, hal, hk, hdp, q⟩ := h
  obtain ⟨u, rfl, ru⟩ := r.one
  cases ru
  obtain ⟨its, rv, hl, hz⟩ := I.list hs
  have e := each_rel rv (dpa_len hd)
  have er : PySem.W.EachIs (fun (v : Value) (b : V × PyData) => ∃ as, Reads s.heap v b.2 as) its (xs.zip ds) := each_and e fun u b hb ru => Dp.reads I b.2 b.1 u (zip_mem_dp hd b hb) ru
  have hlen : (xs.zip ds).length = xs.length := by rw [List.length_zip, dpa_len hd]; omega
  refine PySem.W.sorted_data (enc := Prod.snd) hl.isList e er (by rw [zip_snd hd]; exact hal) (by rw [zip_snd hd]; exact hk) (by rw [hlen]; exact hz) (fun b hb => ?_) fun out ho eo => ?_
  · have hm : b.2 ∈ ds := by
      have h1 : b.2 ∈ (xs.zip ds).map Prod.snd := List.mem_map_of_mem hb
      rwa [zip_snd hd] at h1
    have := hdp _ hm
    omega
  · have hp := List.mergeSort_perm (xs.zip ds) (PySem.W.dataLe false Prod.snd)
    have hv := each_vals eo
    obtain ⟨n, hn⟩ := sortedAll_at s.heap its (List.toArray out)
    have hm : ((xs.zip ds).mergeSort (PySem.W.dataLe false Prod.snd)).map Prod.snd = ds.mergeSort leD := by
      exact (PySem.W.sort_maps (r := PySem.W.dataLe false Prod.snd) (s := leD) (Prod.snd : V × PyData → PyData) (fun _ _ _ _ => rfl)).trans (by rw [zip_snd hd])
    refine ⟨.ref (s.heap.objs.size + 1), upd H (s.heap.objs.size + 1) (.lst (((xs.zip ds).mergeSort (PySem.W.dataLe false Prod.snd)).map Prod.fst)), I.laid (t' := s.toks) (fun b o z => sortedAll_old z) (Nat.le_succ _) ⟨?_, out, n, hv, hn⟩, rfl, q _ _ (I.hok.fresh (Nat.le_succ _)) hp hm⟩
    rw [List.length_map, hp.length_eq, hlen]; exact hz
theorem k_sortM {X : Cx} {K : PySem.W.Frag} (hu : X.A.units + 64 < cLine) (h : X.K = K := by rfl) : CallR X (.builtin "sorted") (rSortM K) := by subst h; exact cr_sortM hu
theorem sort_m {α : Type} {K : PySem.W.Frag} {S : Addr → Prop} {H : Hp} {x : V} {ms : List α} {f : α → PyData} {le : α → α → Bool} {Q : VK} (hle : ∀ a ∈ ms, ∀ b ∈ ms, le a b = leD (f a) (f b)) (kn : Kn S H) (hx : Dp K (off S H) x (.list (ms.map f))) (hal : ∀ a ∈ ms, ∀ b ∈ ms, PySem.W.alike (f a) (f b) = true) (hk : PySem.W.Sortable (ms.map f)) (hdp : ∀ a ∈ ms, (f a).depth ≤ 60)
    (q : ∀ u H', Same H H' → Dp K (off S H') u (.list ((ms.mergeSort le).map f)) → Q u H') : rSortM K [x] H Q := by
  obtain ⟨l, xs, rfl, h1, d1⟩ := list_at hx
  refine ⟨l, xs, ms.map f, rfl, off_sub.seq h1, dpa_same off_sub _ _ d1, fun d hd d' hd' => ?_, hk, fun d hd => ?_, fun p bs hp pm em => ?_⟩
  · obtain ⟨a, ha, rfl⟩ := List.mem_map.mp hd
    obtain ⟨b, hb, rfl⟩ := List.mem_map.mp hd'
    exact hal a ha b hb
  · obtain ⟨a, ha, rfl⟩ := List.mem_map.mp hd
    exact hdp a ha
  have pe : bs.map Prod.snd = (ms.mergeSort le).map f := by
    rw [em]; exact (PySem.W.sort_maps f hle).symm
  refine q _ _ (same_new hp) (dp_newL kn hp ?_)
  rw [← pe]
  have go : ∀ cs : List (V × PyData), (∀ b ∈ cs, b ∈ xs.zip (ms.map f)) → DpAll K (off S H) (cs.map Prod.fst) (cs.map Prod.snd) := by
    intro cs
    induction cs with
    | nil => intro _; exact .nil
    | cons c cs ih => intro h; exact .cons (zip_mem_dp d1 c (h c List.mem_cons_self)) (ih fun b hb => h b (List.mem_cons_of_mem _ hb))
  exact go bs fun b hb => pm.mem_iff.mp hb
/-- lists in order with the same elements are one list -/
theorem order_one {α : Type} {le : α → α → Bool} (anti : ∀ a b, le a b = true → le b a = true → a = b) : ∀ {l m : List α}, l.Pairwise (fun a b => le a b = true) → m.Pairwise (fun a b => le a b = true) → l.Perm m → l = m
  | [], m, _, _, p => (List.nil_perm.mp p).symm
  | a :: l, [], _, _, p => (List.perm_nil.mp p)
  | a :: l, b :: m, h1, h2, p => by
    have h1' := List.pairwise_cons.mp h1
    have h2' := List.pairwise_cons.mp h2
    have e : a = b := by
      rcases List.mem_cons.mp (p.mem_iff.mp (List.mem_cons_self (a := a) (l := l))) with e | ha
      · exact e
      · rcases List.mem_cons.mp (p.mem_iff.mpr (List.mem_cons_self (a := b) (l := m))) with e | hb
        · exact e.symm
        · exact anti a b (h1'.1 b hb) (h2'.1 a ha)
    subst e
    rw [order_one anti h1'.2 h2'.2 (List.Perm.cons_inv p)]
theorem sort_perm {α : Type} {le : α → α → Bool} (t : PySem.W.TotalLe le) (anti : ∀ a b, le a b = true → le b a = true → a = b) {l m : List α} (p : l.Perm m) : l.mergeSort le = m.mergeSort le :=
  order_one anti (PySem.W.sort_pairwise t l) (PySem.W.sort_pairwise t m) (((List.mergeSort_perm l le).trans p).trans (List.mergeSort_perm m le).symm)
end Kh

set_option maxRecDepth 100000
set_option maxHeartbeats 1000000
/-! comprehensions and loops over what stands for a list of anything -/
namespace Kh
open PySem PySem.Spec PyProof.Rows L2
def pick {α β : Type} (ms : List α) (d : β) (g : α → β) (j : Nat) : β := match ms[j]? with | some m => g m | none => d
theorem pick_eq {α β : Type} {ms : List α} {d : β} {g : α → β} {j : Nat} {m : α} (h : ms[j]? = some m) : pick ms d g j = g m := by unfold pick; rw [h]
theorem at_map {α β : Type} {ms : List α} {f : α → β} {j : Nat} {d : β} (h : (ms.map f)[j]? = some d) : ∃ m, ms[j]? = some m ∧ m ∈ ms ∧ d = f m := by
  rw [List.getElem?_map] at h
  cases e : ms[j]? with
  | none => rw [e] at h; cases h
  | some m => rw [e] at h; exact ⟨m, rfl, List.mem_of_getElem? e, (Option.some.inj h).symm⟩
theorem lcM {α : Type} {K : PySem.W.Frag} {S : Addr → Prop} {H : Hp} {σ : L2.St} {t te : TE} {sl : Nat} {vs : List Nat} {Q : VK} (b : Bool) (ms : List α) (f g : α → PyData) (kn : Kn S H)
    (hev : ∀ Q : VK, (∀ u H1, Same H H1 → Dp K (off S H1) u (sq b (ms.map f)) → Q u H1) → t σ H Q) (hn : ms.length ≤ 100000) (hw : ∀ x, wipe ((wipe σ vs).set sl (some x)) vs = wipe σ vs)
    (body : ∀ m ∈ ms, ∀ x H1 S', Same H H1 → Kn S' H1 → Dp K (off S' H1) x (f m) → (∀ a, S a → S' a) → Same (off S H) (off S' H1) → ∀ Q : VK, (∀ y H', Same H1 H' → Dp K (off S' H') y (g m) → Q y H') → te ((wipe σ vs).set sl (some x)) H1 Q)
    (done : ∀ D H1 ys, H D = none → Same H H1 → H1 D = some (.lst ys) → Dp K (off S H1) (.ref D) (.list (ms.map g)) → Q (.ref D) H1) :
    tLc (fun σ H R => iList K t σ H R ∨ iTup K t σ H R) (gName sl) tYes te vs σ H Q := by
  refine lc_seq (b := b) (ds := ms.map f) (pick ms .none g) kn hev (by rw [List.length_map]; exact hn) hw (fun j x d H1 S' dj s1 kn1 dx hS ho Q q => ?_) fun D H1 ys hD s1 hd h => done D H1 ys hD s1 hd ?_
  · obtain ⟨m, hj, hm, rfl⟩ := at_map dj
    exact body m hm x H1 S' s1 kn1 dx hS ho Q fun y H' s' d' => q y H' s' (by rw [pick_eq hj]; exact d')
  · rw [List.length_map] at h
    rw [range_map (g := g) fun i x e => pick_eq e] at h
    exact h
theorem lcF {α : Type} {K : PySem.W.Frag} {S : Addr → Prop} {H : Hp} {σ : L2.St} {t te : TE} {tt : TT} {sl : Nat} {vs : List Nat} {Q : VK} (b : Bool) (ms : List α) (p : α → Bool) (f g : α → PyData) (kn : Kn S H)
    (hev : ∀ Q : VK, (∀ u H1, Same H H1 → Dp K (off S H1) u (sq b (ms.map f)) → Q u H1) → t σ H Q) (hn : ms.length ≤ 100000) (hw : ∀ x, wipe ((wipe σ vs).set sl (some x)) vs = wipe σ vs)
    (test : ∀ m ∈ ms, ∀ x H1 S', Same H H1 → Kn S' H1 → Dp K (off S' H1) x (f m) → (∀ a, S a → S' a) → Same (off S H) (off S' H1) → ∀ Q : Bool → Hp → Prop, (∀ H', Same H1 H' → Q (p m) H') → tt ((wipe σ vs).set sl (some x)) H1 Q)
    (body : ∀ m ∈ ms, p m = true → ∀ x H1 S', Same H H1 → Kn S' H1 → Dp K (off S' H1) x (f m) → (∀ a, S a → S' a) → Same (off S H) (off S' H1) → ∀ Q : VK, (∀ y H', Same H1 H' → Dp K (off S' H') y (g m) → Q y H') → te ((wipe σ vs).set sl (some x)) H1 Q)
    (done : ∀ D H1 ys, H D = none → Same H H1 → H1 D = some (.lst ys) → Dp K (off S H1) (.ref D) (.list ((ms.filter p).map g)) → Q (.ref D) H1) :
    tLc (fun σ H R => iList K t σ H R ∨ iTup K t σ H R) (gName sl) tt te vs σ H Q := by
  refine lc_seqF (b := b) (ds := ms.map f) (pick ms false p) (pick ms .none g) kn hev (by rw [List.length_map]; exact hn) hw (fun j x d H1 S' dj s1 kn1 dx hS ho Q q => ?_) (fun j x d H1 S' dj pj s1 kn1 dx hS ho Q q => ?_) fun D H1 ys hD s1 hd h => done D H1 ys hD s1 hd ?_
  · obtain ⟨m, hj, hm, rfl⟩ := at_map dj
    exact test m hm x H1 S' s1 kn1 dx hS ho Q fun H' s' => by have := q H' s'; rwa [pick_eq hj] at this
  · obtain ⟨m, hj, hm, rfl⟩ := at_map dj
    rw [pick_eq hj] at pj
    exact body m hm pj x H1 S' s1 kn1 dx hS ho Q fun y H' s' d' => q y H' s' (by rw [pick_eq hj]; exact d')
  · rw [List.length_map] at h
    rw [range_filter (p := p) (g := g) fun i x e => ⟨pick_eq e, pick_eq e⟩] at h
    exact h
theorem forM {α : Type} {K : PySem.W.Frag} {S : Addr → Prop} {H : Hp} {σ : L2.St} {t : TE} {g : TG} {tb : TS} {D : Ends} (b : Bool) (ms : List α) (f : α → PyData) (kn : Kn S H)
    (hev : ∀ Q : VK, (∀ u H1, Same H H1 → Dp K (off S H1) u (sq b (ms.map f)) → Q u H1) → t σ H Q)
    (step : ∀ H1, Same H H1 → Kn S H1 → ∃ Pv : Nat → L2.St → Hp → Prop, Pv 0 σ H1 ∧ (∀ i σ' H', Pv i σ' H' → Same (off S H1) H') ∧
      (∀ i m x σ' H', ms[i]? = some m → i < ms.length → m ∈ ms → Dp K (off S H1) x (f m) → Pv i σ' H' → g x σ' H' fun σ2 H2 => tb { D with nx := Pv (i + 1), ct := Pv (i + 1), bk := D.nx } σ2 H2) ∧ (∀ σ' H', Pv ms.length σ' H' → D.nx σ' H')) :
    tFor (fun σ H R => iList K t σ H R ∨ iTup K t σ H R) g tb D σ H := by
  refine s_for (b := b) (ds := ms.map f) kn hev fun xs H1 s1 kn1 ha hl => ?_
  obtain ⟨Pv, h0, h1, h2, h3⟩ := step H1 s1 kn1
  refine ⟨Pv, h0, fun i σ' H' _ h => h1 i σ' H' h, fun i x d σ' H' di dx h => ?_, fun σ' H' h => h3 σ' H' (by rwa [List.length_map] at h)⟩
  obtain ⟨m, hj, hm, rfl⟩ := at_map di
  exact h2 i m x σ' H' hj (List.getElem?_eq_some_iff.mp hj).1 hm dx h
theorem lc2M {α β : Type} {K : PySem.W.Frag} {S : Addr → Prop} {H : Hp} {σ : L2.St} {t t2 te : TE} {s1 s2 : Nat} {vs vs1 : List Nat} {Q : VK} (b b2 : Bool) (ms : List α) (f : α → PyData) (ins : α → List β) (f2 : β → PyData) (g : α → β → PyData) (kn : Kn S H)
    (hev : ∀ Q : VK, (∀ u H1, Same H H1 → Dp K (off S H1) u (sq b (ms.map f)) → Q u H1) → t σ H Q) (hn : (ms.flatMap ins).length ≤ 100000) (hw : ∀ x, wipe ((wipe σ vs).set s1 (some x)) vs = wipe σ vs)
    (hw1 : ∀ x y, wipe ((wipe ((wipe σ vs).set s1 (some x)) vs1).set s2 (some y)) vs1 = wipe ((wipe σ vs).set s1 (some x)) vs1)
    (inner : ∀ m ∈ ms, ∀ x H1 S', Same H H1 → Kn S' H1 → Dp K (off S' H1) x (f m) → (∀ a, S a → S' a) → Same (off S H) (off S' H1) → ∀ Q : VK, (∀ y H', Same H1 H' → Dp K (off S' H') y (sq b2 ((ins m).map f2)) → Q y H') → t2 ((wipe σ vs).set s1 (some x)) H1 Q)
    (body : ∀ m ∈ ms, ∀ n ∈ ins m, ∀ x y H1 S', Same H H1 → Kn S' H1 → Dp K (off S' H1) x (f m) → Dp K (off S' H1) y (f2 n) → (∀ a, S a → S' a) → Same (off S H) (off S' H1) → ∀ Q : VK, (∀ z H', Same H1 H' → Dp K (off S' H') z (g m n) → Q z H') → te ((wipe ((wipe σ vs).set s1 (some x)) vs1).set s2 (some y)) H1 Q)
    (done : ∀ D H1 ys, H D = none → Same H H1 → H1 D = some (.lst ys) → Dp K (off S H1) (.ref D) (.list (ms.flatMap fun m => (ins m).map (g m))) → Q (.ref D) H1) :
    tLc2 (fun σ H R => iList K t σ H R ∨ iTup K t σ H R) (gName s1) tYes (fun σ H R => iList K t2 σ H R ∨ iTup K t2 σ H R) (gName s2) tYes te vs vs1 σ H Q := by
  refine it_any hev fun J xs H1 s ha w D hD => ?_
  have ln := dpa_len ha
  rw [List.length_map] at ln
  have kn1 := kn.same s
  have tk : ∀ n, ((ms.take n).flatMap fun m => (ins m).map (g m)).length ≤ 100000 := fun n => by
    have e : (ms.flatMap fun m => (ins m).map (g m)).length = (ms.flatMap ins).length := by
      rw [List.length_flatMap, List.length_flatMap]; simp
    have h : (ms.flatMap fun m => (ins m).map (g m)).length = ((ms.take n).flatMap fun m => (ins m).map (g m)).length + ((ms.drop n).flatMap fun m => (ins m).map (g m)).length := by
      rw [← List.length_append, ← List.flatMap_append, List.take_append_drop]
    omega
  have step : ∀ n m, ms[n]? = some m → ((ms.take (n + 1)).flatMap fun m => (ins m).map (g m)) = ((ms.take n).flatMap fun m => (ins m).map (g m)) ++ (ins m).map (g m) := fun n m e => by
    rw [List.take_add_one, e, List.flatMap_append]; simp
  refine wlk w (fun x H' Nx => gName s1 x (wipe σ vs) H' _) (fun i H' => ∃ ys, DpAll K (off (plus S D) H') ys ((ms.take i).flatMap fun m => (ins m).map (g m)) ∧ Same H1 H' ∧ H' D = some (.lst ys)) ⟨[], .nil, same_new hD, upd_same⟩ (fun i H' _ ⟨_, _, z, _⟩ => off_sub.trans z) ?_ ?_
  · rintro i x H2 H3 hi ⟨ys, py, z, hd⟩ ⟨rfl, xi⟩
    obtain ⟨d, dj, dx⟩ := dpa_at ha xi
    obtain ⟨m, hj, hm, rfl⟩ := at_map dj
    refine ⟨hw x, t_yes ?_⟩
    have dx3 := dp_same (off_plus hD z) _ _ dx
    have off3 : Same (off S H) (off (plus S D) H3) := (off_same s).trans (off_plus hD z)
    refine it_any (b := b2) (S := plus S D) (ds := (ins m).map f2) (fun Q q => inner m hm x H3 (plus S D) (s.trans z) ((kn1.same z).plus (some_ne hd)) dx3 (fun _ h => .inl h) off3 Q q) fun J1 zs H4 s4 hz w1 => ?_
    have lz := dpa_len hz
    rw [List.length_map] at lz
    have kn4 : Kn (plus S D) H4 := ((kn1.same z).plus (some_ne hd)).same s4
    refine wlk w1 (fun y H' Nx => gName s2 y (wipe ((wipe σ vs).set s1 (some x)) vs1) H' fun σ3 H5 => wipe σ3 vs1 = wipe ((wipe σ vs).set s1 (some x)) vs1 ∧ tYes σ3 H5 fun b H6 => if b = true then te σ3 H6 fun y H7 => ∃ acc, H7 D = some (.lst acc) ∧ acc.length < sizeLine ∧ Nx (upd H7 D (.lst (acc ++ [y]))) else Nx H6) (fun j H' => ∃ ys', DpAll K (off (plus S D) H') ys' (((ms.take i).flatMap fun m => (ins m).map (g m)) ++ ((ins m).map (g m)).take j) ∧ SameBut D H4 H' ∧ H' D = some (.lst ys')) ⟨ys, by simpa using dpa_same (off_same s4) _ _ py, sbut (Same.refl _), s4 _ _ hd⟩ (fun j H' _ ⟨_, _, z', _⟩ => fun c o h => z' c o (fun e => (off_some h).1 (.inr e)) (off_some h).2) ?_ fun H5 h5 => ?_
    · rintro j y H5 H6 hjz ⟨ys', py', z', hd'⟩ ⟨rfl, yj⟩
      obtain ⟨e, ej, de⟩ := dpa_at hz yj
      obtain ⟨n, nj, hn', rfl⟩ := at_map ej
      refine ⟨hw1 x y, t_yes ?_⟩
      have hl : ys'.length ≤ 100000 := by
        have h1 := dpa_len py'
        have h2 := tk (i + 1)
        rw [step i m hj, List.length_append] at h2
        rw [h1, List.length_append, List.length_take]
        omega
      have sH6 : Same H H6 := fun b o h => by
        have h1 : H1 b = some o := s b o h
        exact z' b o (ne_of_none h1 hD) (s4 b o (z b o h1))
      have k6 : Kn (plus S D) H6 := fun b hb => by
        by_cases e : b = D
        · subst e; exact some_ne hd'
        · cases hq : H4 b with
          | none => exact (kn4 b hb hq).elim
          | some o => exact some_ne (z' b o e hq)
      have ob6 : Same (off (plus S D) H4) (off (plus S D) H6) := off_but z'
      refine body m hm n hn' x y H6 (plus S D) sH6 k6 (dp_same ((off_same s4).trans ob6) _ _ dx3) (dp_same ob6 _ _ de) (fun _ h => .inl h) ((off3.trans (off_same s4)).trans ob6) _ fun u H7 s7 d7 => ?_
      refine ⟨ys', s7 _ _ hd', Nat.lt_of_le_of_lt hl (by decide), ys' ++ [u], ?_, bmut fun b o n h => s7 b o (z' b o n h), upd_same⟩
      rw [off_mut (show plus S D D from .inr rfl), List.take_add_one, List.getElem?_map, nj, ← List.append_assoc]
      exact dpa_app (dpa_same (off_same s7) _ _ py') (.cons d7 .nil)
    · obtain ⟨ys', py', z', hd'⟩ := h5
      refine ⟨ys', ?_, ?_, hd'⟩
      · rw [step i m hj]
        rwa [List.take_of_length_le (show ((ins m).map (g m)).length ≤ zs.length by rw [List.length_map]; omega)] at py'
      · intro c o h
        exact z' c o (ne_of_none h hD) (s4 c o (z c o h))
  · rintro H2 ⟨ys, py, z, hd⟩
    refine done D H2 ys (s.free hD) (s.trans z) hd (dp_lst (kn1.new hD) hd ?_)
    rw [ln, List.take_length] at py
    exact dpa_same (off_fin (D := D)) _ _ py
end Kh

set_option maxRecDepth 100000
set_option maxHeartbeats 4000000
namespace K31
open PySem PySem.Spec PyProof.Rows L2 Kh
/-- a pot stands at p -/
def PotAt (H : Hp) (p : Addr) : Prop := ∃ x y : Int, H p = some (.lst [.int x, .int y]) ∧ y.natAbs < 2 ^ 40
theorem log_lt {j : Int} {b : Nat} (h : j.natAbs < 2 ^ b) (h0 : 0 < b) : j.natAbs.log2 < b := PySem.Flt.log2_lt_of h0 h
section
variable {P : Program} {w : World} {K : PySem.W.Frag} {mg : Str → Option Value} {base : Heap} {a : Nat → Addr} {fd : Nat → FuncData} {C : Addr} {tk : Nat → Tok}
/-- a new pot -/
def spPot (K : PySem.W.Frag) : Sp := fun vs H Q _ => ∃ (v : V) (ns : List Int) (k : Nat), vs = [v, .int (k : Nat)] ∧ Dp K H v (.list (ns.map PyData.int)) ∧ k < 100 ∧ ∀ p H', Same H H' → H p = none → PotAt H' p → Q (.ref p) H'
theorem ok__law_pot (T : Txt K mg a fd C tk) : FnOk P w K mg base CX0 1 (a 26) (fd 26) ["_law_script", "_law_k"] (spPot K) := by
  refine T.F__law_pot.ok sc__law_pot (fun vs H Q E h => by obtain ⟨_, _, _, rfl, _⟩ := h; rfl) (fun cdv A outer s H vs Q E hr h => ?_)
  obtain ⟨v, ns, k, rfl, hd, hk, q⟩ := h
  refine ⟨_, (pss_cons (ps_set (i := 2) sc__law_pot.nd rfl (Or.inl rfl) (pe_op op_add (pe_op op_mulW pe_int (pv 1)) pe_int))
      (pss_cons (ps_if (pt_cmpR op_lt (pv 1) (pe_callB (k_len (K := K)) (by rfl) T.z_len (by decide +kernel) (pa_cons (pv 0) pa_nil)) (nomark _))
        (pss_one (ps_set (i := 2) sc__law_pot.nd rfl (Or.inl rfl) (pe_callB call_absR (by rfl) T.z_abs (by decide +kernel) (pa_cons (pe_ix (k_ix (K := K)) (pv 0) (pv 1) (fun _ _ => rfl)) pa_nil)))) pss_nil)
      (pss_one (ps_ret (pe_lst (pa_cons (pe_callB (call_max2R rfl) (by rfl) T.z_max (by decide +kernel) (pa_cons pe_int (pa_cons (pe_op op_sub (pv 2) (pe_op op_pow pe_int pe_int)) pa_nil))) (pa_cons (pe_op op_add (pe_op op_mod (pe_callTy call_int1R (by rfl) T.z_int (by decide +kernel) (pa_cons (pe_op op_add (pe_op op_add (pe_op op_mulW (pe_op op_mod (pe_callTy call_int1R (by rfl) T.z_int (by decide +kernel) (pa_cons (pv 2) pa_nil)) pe_int) pe_int) (pe_op op_mulW pe_int (pv 1))) pe_int) pa_nil)) pe_int) pe_int) pa_nil))))))), ?_⟩
  have kb : ((k : Nat) : Int).natAbs < 2 ^ 7 := by simp; omega
  refine s_seq (s_set (t_op (t_op (t_c (t_var rfl ⟨_, _, rfl, rfl, wide_mul (a := 8) (b := 7) (by decide) kb (by decide) (by decide) (by decide), t_c ⟨_, _, rfl, rfl, ?_⟩⟩)))))
  -- the second half, whatever the cell is
  have fin : ∀ c : Int, (tRet (tLst (tCons (tCB rMax2 (tCons (tC (.int 0)) (tCons (tOp (rI0 fun i j => V.int (i - j)) (tVar 2) (tOp (rI CPow fun i j => V.int (i ^ j.toNat)) (tC (.int 10)) (tC (.int 18)))) tNil)))
      (tCons (tOp (rI0 fun i j => V.int (i + j)) (tOp (rI (fun _ j => 0 < j) fun i j => V.int (i % j)) (tCB rInt1 (tCons (tOp (rI0 fun i j => V.int (i + j)) (tOp (rI0 fun i j => V.int (i + j)) (tOp (rI CMulW fun i j => V.int (i * j)) (tOp (rI (fun _ j => 0 < j) fun i j => V.int (i % j)) (tCB rInt1 (tCons (tVar 2) tNil)) (tC (.int 2147483549))) (tC (.int 48271))) (tOp (rI CMulW fun i j => V.int (i * j)) (tC (.int 9539)) (tVar 1))) (tC (.int 43))) tNil)) (tC (.int 2147483497))) (tC (.int 1))) tNil)))) { nx := fun _ H' => Q .non H', rt := Q } [some v, some (.int (k : Nat)), some (.int c)] H := by
    intro c
    refine s_ret (t_lst (a_cons (t_cb2 (t_c (t_op (t_var rfl (t_op (t_c (t_c ⟨_, _, rfl, rfl, ⟨by decide, by decide, by decide⟩, ?_⟩))))))))) 
    refine ⟨_, _, rfl, rfl, ⟨_, _, rfl, ?_⟩⟩
    refine a_cons (t_op (t_op (t_cb1 (t_op (t_op (t_op (t_op (t_cb1 (t_var rfl (.inl ⟨_, rfl, t_c ⟨_, _, rfl, rfl, (by decide : (0 : Int) < 2147483549), ?_⟩⟩)))))))))) 
    have m1 : (c % 2147483549).natAbs < 2 ^ 31 := by
      have h1 := Int.emod_nonneg c (show (2147483549 : Int) ≠ 0 by decide)
      have h2 := Int.emod_lt_of_pos c (show (0 : Int) < 2147483549 by decide)
      omega
    refine t_c ⟨_, _, rfl, rfl, wide_mul (a := 31) (b := 16) m1 (by decide) (by decide) (by decide) (by decide), ?_⟩
    refine t_op (t_c (t_var rfl ⟨_, _, rfl, rfl, wide_mul (a := 14) (b := 7) (by decide) kb (by decide) (by decide) (by decide), ⟨_, _, rfl, rfl, t_c ⟨_, _, rfl, rfl, .inl ⟨_, rfl, t_c ⟨_, _, rfl, rfl, (by decide : (0 : Int) < 2147483497), t_c ⟨_, _, rfl, rfl, a_nil ⟨le2, fun p hp => ?_⟩⟩⟩⟩⟩⟩⟩))
    generalize hz : (c % 2147483549 * 48271 + 9539 * (k : Int) + 43) = z
    refine q p _ (same_new hp) hp ⟨_, _, upd_same, ?_⟩
    have h1 := Int.emod_nonneg z (show (2147483497 : Int) ≠ 0 by decide)
    have h2 := Int.emod_lt_of_pos z (show (0 : Int) < 2147483497 by decide)
    omega
  obtain ⟨l, xs, rfl, hs, ha⟩ := list_at hd
  have ex := dpa_ints ha
  subst ex
  refine s_seq (s_if (b_test (t_op (t_var rfl (t_cb1 (t_var rfl ⟨l, _, rfl, .inl hs, ⟨_, _, rfl, rfl, ?_⟩⟩))))))
  refine ⟨_, rfl, if_b (fun c => ?_) (fun c => s_next (fin _))⟩
  have hk2 : k < ns.length := by have := of_decide_eq_true c; rw [List.length_map] at this; omega
  refine s_set (t_cb1 (t_op (t_var rfl (t_var rfl (.inl ⟨l, _, ((k : Nat) : Int), .int ns[k], rfl, rfl, hs, atI_nat (by simp [hk2]), ⟨_, rfl, fin _⟩⟩)))))
end
end K31

set_option maxRecDepth 100000
set_option maxHeartbeats 4000000
namespace K31
open PySem PySem.Spec PyProof.Rows L2 Kh
section
variable {P : Program} {w : World} {K : PySem.W.Frag} {mg : Str → Option Value} {base : Heap} {a : Nat → Addr} {fd : Nat → FuncData} {C : Addr} {tk : Nat → Tok}
/-- a draw below many -/
def spDraw (K : PySem.W.Frag) : Sp := fun vs H Q _ => ∃ (p : Addr) (m : Nat), vs = [.ref p, .int (m : Nat)] ∧ PotAt H p ∧ 0 < m ∧ m < 100000 ∧ ∀ (d : Nat) H', d < m → SameBut p H H' → PotAt H' p → Q (.int (d : Nat)) H'
theorem ok__law_draw (T : Txt K mg a fd C tk) : FnOk P w K mg base CX0 1 (a 27) (fd 27) ["_law_pot_here", "_law_many"] (spDraw K) := by
  refine T.F__law_draw.ok sc__law_draw (fun vs H Q E h => by obtain ⟨_, _, rfl, _⟩ := h; rfl) (fun cdv A outer s H vs Q E hr h => ?_)
  obtain ⟨p, m, rfl, ⟨x, y, hp, hy⟩, m0, m1, q⟩ := h
  refine ⟨_, (pss_cons (ps_if (pt_cmpR op_gt (pe_ix (k_ix (K := K)) (pv 0) pe_int (fun _ _ => rfl)) pe_int (nomark _))
        (pss_cons (ps_asg (pe_callB call_divmodW (by rfl) T.z_divmod (by decide +kernel) (pa_cons (pe_ix (k_ix (K := K)) (pv 0) pe_int (fun _ _ => rfl)) (pa_cons (pv 1) pa_nil))) (pg_tup rfl (pgs_cons (pg_sub (pv 0) pe_int set_list) (pgs_cons (pg_name (i := 2) sc__law_draw.nd rfl (Or.inl rfl)) pgs_nil))))
        (pss_one (ps_ret (pv 2)))) pss_nil)
      (pss_cons (ps_asg (pe_op op_mod (pe_callTy call_int1R (by rfl) T.z_int (by decide +kernel) (pa_cons (pe_op op_add (pe_op op_mulW (pe_ix (k_ix (K := K)) (pv 0) pe_int (fun _ _ => rfl)) pe_int) pe_int) pa_nil)) pe_int) (pg_sub (pv 0) pe_int set_list))
      (pss_one (ps_ret (pe_op op_mod (pe_callTy call_int1R (by rfl) T.z_int (by decide +kernel) (pa_cons (pe_op op_fdivW (pe_op op_mod (pe_callTy call_int1R (by rfl) T.z_int (by decide +kernel) (pa_cons (pe_op op_mulW (pe_ix (k_ix (K := K)) (pv 0) pe_int (fun _ _ => rfl)) (pe_ix (k_ix (K := K)) (pv 0) pe_int (fun _ _ => rfl))) pa_nil)) pe_int) pe_int) pa_nil)) (pv 1)))))), ?_⟩
  have at0 : ∀ {H' : Hp} {u v : V} {Q' : VK}, H' p = some (.lst [u, v]) → Q' u H' → rIx K (.ref p) (.int 0) H' Q' := fun {H' u v Q'} h q => .inl ⟨p, _, ((0 : Nat) : Int), u, rfl, rfl, sqL h, atI_nat (j := 0) rfl, q⟩
  have at1 : ∀ {H' : Hp} {u v : V} {Q' : VK}, H' p = some (.lst [u, v]) → Q' v H' → rIx K (.ref p) (.int 1) H' Q' := fun {H' u v Q'} h q => .inl ⟨p, _, ((1 : Nat) : Int), v, rfl, rfl, sqL h, atI_nat (j := 1) rfl, q⟩
  have mb : ((m : Nat) : Int).natAbs.log2 < 9000 := Nat.lt_of_lt_of_le (log_lt (b := 17) (by simp; omega) (by decide)) (by decide)
  have dig : ∀ z : Int, ∃ d : Nat, d < m ∧ z % (m : Nat) = (d : Nat) := fun z => by
    have h1 := Int.emod_nonneg z (show ((m : Nat) : Int) ≠ 0 by omega)
    have h2 := Int.emod_lt_of_pos z (show (0 : Int) < (m : Nat) by omega)
    exact ⟨(z % (m : Nat)).toNat, by omega, by omega⟩
  refine s_seq (s_if (b_test (t_op (t_op (t_var rfl (t_c (at0 hp (t_c ⟨_, _, rfl, rfl, ?_⟩))))))))
  refine ⟨_, rfl, if_b (fun c => ?_) (fun c => s_next ?_)⟩
  · refine s_seq ?_
    refine t_cb2 (t_op (t_var rfl (t_c (at0 hp (t_var rfl ⟨_, _, rfl, ⟨by omega, PyProof.noPylong_of_log2 mb⟩, fun r hr0 => ?_⟩)))))
    have hpr := same_new (o := HO.tup [V.int (x / (m : Nat)), V.int (x % (m : Nat))]) hr0 _ _ hp
    refine ⟨r, _, rfl, sqT upd_same, rfl, _, _, rfl, ?_⟩
    refine t_var rfl (t_c ⟨p, _, 0, 0, rfl, rfl, hpr, rfl, ?_⟩)
    refine ⟨_, _, rfl, g_name ⟨rfl, ?_⟩⟩
    refine s_ret (t_var rfl ?_)
    obtain ⟨d, hd, e⟩ := dig x
    rw [e]
    exact q d _ hd (bmut (sbut (same_new hr0))) ⟨_, _, upd_same, hy⟩
  · refine s_seq ?_
    refine t_op (t_cb1 (t_op (t_op (t_op (t_var rfl (t_c (at1 hp (t_c ⟨_, _, rfl, rfl, wide_mul (a := 40) (b := 16) hy (by decide) (by decide) (by decide) (by decide), t_c ⟨_, _, rfl, rfl, ?_⟩⟩)))))))) 
    refine .inl ⟨_, rfl, t_c ⟨_, _, rfl, rfl, (by decide : (0 : Int) < 2147483497), ?_⟩⟩
    have zb : ((y * 48271 + 20011) % 2147483497).natAbs < 2 ^ 31 := by
      have h1 := Int.emod_nonneg (y * 48271 + 20011) (show (2147483497 : Int) ≠ 0 by decide)
      have h2 := Int.emod_lt_of_pos (y * 48271 + 20011) (show (0 : Int) < 2147483497 by decide)
      omega
    refine t_var rfl (t_c ⟨p, _, 1, 1, rfl, rfl, hp, rfl, nx_of ?_⟩)
    have hp2 : (upd H p (.lst [V.int x, V.int ((y * 48271 + 20011) % 2147483497)])) p = some (.lst [.int x, .int ((y * 48271 + 20011) % 2147483497)]) := upd_same
    have b2 : SameBut p H (upd H p (.lst [V.int x, V.int ((y * 48271 + 20011) % 2147483497)])) := bmut (sbut (Same.refl H))
    refine s_ret (t_op (t_cb1 (t_op (t_op (t_cb1 (t_op (t_op (t_var rfl (t_c (at1 hp2 (t_op (t_var rfl (t_c (at1 hp2 ⟨_, _, rfl, rfl, wide_mul (a := 31) (b := 31) zb zb (by decide) (by decide) (by decide), ?_⟩))))))))))))))
    refine .inl ⟨_, rfl, t_c ⟨_, _, rfl, rfl, (by decide : (0 : Int) < 2147483549), t_c ⟨_, _, rfl, rfl, ⟨by decide, by decide +kernel⟩, ?_⟩⟩⟩
    refine .inl ⟨_, rfl, t_var rfl ⟨_, _, rfl, rfl, (show (0 : Int) < (m : Nat) by omega), ?_⟩⟩
    obtain ⟨d, hd, e⟩ := dig ((y * 48271 + 20011) % 2147483497 * ((y * 48271 + 20011) % 2147483497) % 2147483549 / 19)
    have fin : Q (.int ((y * 48271 + 20011) % 2147483497 * ((y * 48271 + 20011) % 2147483497) % 2147483549 / 19 % (m : Nat))) (upd H p (.lst [V.int x, V.int ((y * 48271 + 20011) % 2147483497)])) := by
      rw [e]; exact q d _ hd b2 ⟨_, _, hp2, Nat.lt_of_lt_of_le zb (by decide)⟩
    exact fin
/-- one of a list -/
def spPick (K : PySem.W.Frag) : Sp := fun vs H Q _ => ∃ (p l : Addr) (xs : List V), vs = [.ref p, .ref l] ∧ PotAt H p ∧ (∀ H', SameBut p H H' → SqL K H' l xs) ∧ 0 < xs.length ∧ xs.length < 1000 ∧ ∀ (d : Nat) x H', xs[d]? = some x → SameBut p H H' → PotAt H' p → Q x H'
theorem sql_but {K : PySem.W.Frag} {H H' : Hp} {p l : Addr} {xs : List V} (h : SqL K H l xs) (e : SameBut p H H') (n : l ≠ p) : SqL K H' l xs := by
  rcases h with (h | ⟨o, h⟩) | h
  · exact .inl (.inl (e _ _ n h))
  · exact .inl (.inr ⟨o, e _ _ n h⟩)
  · exact .inr h
theorem ok__law_pick (T : Txt K mg a fd C tk) : FnOk P w K mg base CX0 2 (a 28) (fd 28) ["_law_pot_here", "_law_some"] (spPick K) := by
  have G__law_draw := ok__law_draw (P := P) (w := w) (base := base) T
  refine T.F__law_pick.ok sc__law_pick (fun vs H Q E h => by obtain ⟨_, _, _, rfl, _⟩ := h; rfl) (fun cdv A outer s H vs Q E hr h => ?_)
  obtain ⟨p, l, xs, rfl, hp, hl, x0, x1, q⟩ := h
  refine ⟨_, (pss_one (ps_ret (pe_ix (k_ix (K := K)) (pv 1) (pe_call G__law_draw (hr.mono (by omega)) (by rfl) T.m__law_draw T.F__law_draw.kp T.b__law_draw .nil pass0 (pa_cons (pv 0) (pa_cons (pe_callB (k_len (K := K)) (by rfl) T.z_len (by decide +kernel) (pa_cons (pv 1) pa_nil)) pa_nil))) (fun _ _ => rfl)))), ?_⟩
  refine s_ret (t_op (t_var rfl (t_call2 (t_var rfl (t_cb1 (t_var rfl ⟨l, xs, rfl, .inl (hl H (sbut (Same.refl H))), ⟨p, xs.length, rfl, hp, x0, by omega, fun d H' hd sb hp' => ?_⟩⟩))))))
  exact .inl ⟨l, xs, ((d : Nat) : Int), xs[d], rfl, rfl, hl H' sb, atI_nat (by simp [hd]), q d _ H' (by simp [hd]) sb hp'⟩
end
end K31

set_option maxRecDepth 100000
set_option maxHeartbeats 1000000
/-! promises whose results share nothing with what is told ahead -/
namespace Kh
open PySem PySem.Spec PyProof.Rows L2
/-- data in new lists and tuples, all of them tracked -/
inductive Np (H : Hp) : V → PyData → Prop where
  | int (i : Int) : Np H (.int i) (.int i)
  | str (x : Str) : Np H (.str x) (.str x)
  | lst {a : Addr} {xs : List V} {ds : List PyData} (h : H a = some (.lst xs)) (l : xs.length = ds.length) (t : ∀ (i : Nat) x d, xs[i]? = some x → ds[i]? = some d → Np H x d) : Np H (.ref a) (.list ds)
  | tup {a : Addr} {xs : List V} {ds : List PyData} (h : H a = some (.tup xs)) (l : xs.length = ds.length) (t : ∀ (i : Nat) x d, xs[i]? = some x → ds[i]? = some d → Np H x d) : Np H (.ref a) (.tuple ds)
theorem Np.same {H H' : Hp} (e : Same H H') {v : V} {d : PyData} (h : Np H v d) : Np H' v d := by
  induction h with
  | int i => exact .int i
  | str x => exact .str x
  | lst h l t ih => exact .lst (e _ _ h) l ih
  | tup h l t ih => exact .tup (e _ _ h) l ih
theorem Np.dp {K : PySem.W.Frag} {H : Hp} {v : V} {d : PyData} (h : Np H v d) : Dp K H v d := by
  induction h with
  | int i => exact .int i
  | str x => exact .str x
  | lst h l t ih => exact .lst (sqL h) (dpa_of l ih)
  | tup h l t ih => exact .tup (sqT h) (dpa_of l ih)
/-- what the results are told by -/
structure Rp (R : Hp → V → PyData → Prop) : Prop where
  same : ∀ {H H' : Hp} {v : V} {d : PyData}, Same H H' → R H v d → R H' v d
  lst : ∀ {H : Hp} {a : Addr} {xs : List V} {ds : List PyData}, H a = some (.lst xs) → xs.length = ds.length → (∀ (i : Nat) x d, xs[i]? = some x → ds[i]? = some d → R H x d) → R H (.ref a) (.list ds)
theorem rp_np : Rp Np := ⟨fun e h => h.same e, fun h l t => .lst h l t⟩
theorem rp_dp (K : PySem.W.Frag) : Rp (Dp K) := ⟨fun e h => dp_same e _ _ h, fun h l t => .lst (sqL h) (dpa_of l t)⟩
/-- what is read lies out of S, what is made out of S2 -/
def spN {α : Type} (R : Hp → V → PyData → Prop) (K : PySem.W.Frag) (enc : α → List PyData) (pre : α → Prop) (f : α → PyData) : Sp := fun vs H Q _ => ∃ (S S2 : Addr → Prop) (x : α), (∀ a, S a → S2 a) ∧ Kn S2 H ∧ DpAll K (off S H) vs (enc x) ∧ pre x ∧
  ∀ v H', Same H H' → R (off S2 H') v (f x) → Q v H'
theorem spN_len {α : Type} {R : Hp → V → PyData → Prop} {K : PySem.W.Frag} {enc : α → List PyData} {pre : α → Prop} {f : α → PyData} {vs : List V} {H : Hp} {Q : VK} {E : XK} {n : Nat} (hn : ∀ x, (enc x).length = n) (h : spN R K enc pre f vs H Q E) : vs.length = n := by
  obtain ⟨S, S2, x, _, _, hd, _⟩ := h
  rw [← hn x]; exact dpa_len hd
theorem spN_P {α : Type} {R : Hp → V → PyData → Prop} {K : PySem.W.Frag} {enc : α → List PyData} {pre : α → Prop} {f : α → PyData} {vs : List V} {H : Hp} {Q : VK} {E : XK} (hR : ∀ {H v d}, R H v d → Dp K H v d) (h : spP K enc pre f vs H Q E) : spN R K enc pre f vs H Q E := by
  obtain ⟨S, x, kn, hd, hp, q⟩ := h
  exact ⟨S, S, x, fun _ z => z, kn, hd, hp, fun v H' s h => q v H' s (hR h)⟩
theorem lc_datN {R : Hp → V → PyData → Prop} (rp : Rp R) {K : PySem.W.Frag} {S S2 : Addr → Prop} {H1 : Hp} {σ : L2.St} {te : TE} {sl : Nat} {vs : List Nat} {Qd : VK} {J : It} {xs : List V} {ds : List PyData} (f : Nat → PyData) (h12 : ∀ a, S a → S2 a)
    (w : Walk J xs.length (fun H' => Same (off S H1) H') (YAt xs)) (ha : DpAll K (off S H1) xs ds) (kn : Kn S2 H1) (hn : ds.length ≤ 100000) (hw : ∀ x, wipe ((wipe σ vs).set sl (some x)) vs = wipe σ vs)
    (body : ∀ j x d H Sa Sb, ds[j]? = some d → Same H1 H → (∀ a, Sa a → Sb a) → Kn Sb H → Dp K (off Sa H) x d → (∀ a, S2 a → Sb a) → ∀ Q : VK, (∀ y H', Same H H' → R (off Sb H') y (f j) → Q y H') → te ((wipe σ vs).set sl (some x)) H Q)
    (done : ∀ D H ys, H1 D = none → Same H1 H → H D = some (.lst ys) → R (off S2 H) (.ref D) (.list ((List.range ds.length).map f)) → Qd (.ref D) H) :
    ∀ D, H1 D = none → ∃ W : Nat → Nat → Hp → Prop, (∃ m, W 0 m (upd H1 D (.lst []))) ∧ ∀ i m H, W i m H →
      (J.stop i H ∧ Qd (.ref D) H) ∨ (J.go i H ∧ ∃ Nx : Hp → Prop, (∀ H', Nx H' → ∃ m', m' < m ∧ W (i + 1) m' H') ∧ ∀ x H', J.yld i H x H' → gName sl x (wipe σ vs) H' fun σ2 H2 => wipe σ2 vs = wipe σ vs ∧ tYes σ2 H2 fun b H3 =>
        if b = true then te σ2 H3 fun y H4 => ∃ acc, H4 D = some (.lst acc) ∧ acc.length < sizeLine ∧ Nx (upd H4 D (.lst (acc ++ [y]))) else Nx H3) := by
  intro D hD
  have ln := dpa_len ha
  refine lc_map (Qd := Qd (.ref D)) w (fun j x => xs[j]? = some x) (fun i H x H' _ y => y) (fun j y H => R (off (plus S2 D) H) y (f j)) (fun H s => off_sub.trans s) hD (by omega) hw (fun j y H H' e h => rp.same (off_but e) h) (fun j x H hj xj s hd Q q => ?_) (fun ys H hl py s hd => ?_)
  · obtain ⟨d, dj, dx⟩ := dpa_at ha xj
    exact body j x d H (plus S D) (plus S2 D) dj s (fun a z => z.imp (h12 a) id) ((kn.same s).plus hd) (dp_same (off_plus hD s) _ _ dx) (fun _ h => .inl h) Q q
  · refine done D H ys hD s hd (rp.lst (by rw [off_out (kn.new hD)]; exact hd) (by simp [hl, ln]) fun i v d h1 h2 => rp.same (off_fin (D := D)) ?_)
    have hi : i < ds.length := by
      have := (List.getElem?_eq_some_iff.mp h1).1
      omega
    rw [List.getElem?_map, List.getElem?_range hi] at h2
    cases h2
    exact py i v h1
theorem lc_seqN {R : Hp → V → PyData → Prop} (rp : Rp R) {K : PySem.W.Frag} {S S2 : Addr → Prop} {H : Hp} {σ : L2.St} {t te : TE} {sl : Nat} {vs : List Nat} {Q : VK} {b : Bool} {ds : List PyData} (f : Nat → PyData) (h12 : ∀ a, S a → S2 a) (kn : Kn S2 H)
    (hev : ∀ Q : VK, (∀ u H1, Same H H1 → Dp K (off S H1) u (sq b ds) → Q u H1) → t σ H Q) (hn : ds.length ≤ 100000) (hw : ∀ x, wipe ((wipe σ vs).set sl (some x)) vs = wipe σ vs)
    (body : ∀ j x d H1 Sa Sb, ds[j]? = some d → Same H H1 → (∀ a, Sa a → Sb a) → Kn Sb H1 → Dp K (off Sa H1) x d → (∀ a, S2 a → Sb a) → ∀ Q : VK, (∀ y H', Same H1 H' → R (off Sb H') y (f j) → Q y H') → te ((wipe σ vs).set sl (some x)) H1 Q)
    (done : ∀ D H1 ys, H D = none → Same H H1 → H1 D = some (.lst ys) → R (off S2 H1) (.ref D) (.list ((List.range ds.length).map f)) → Q (.ref D) H1) :
    tLc (fun σ H R => iList K t σ H R ∨ iTup K t σ H R) (gName sl) tYes te vs σ H Q :=
  it_any hev fun J xs H1 s ha w => lc_datN rp f h12 w ha (kn.same s) hn hw (fun j x d H2 Sa Sb dj s2 hab kn2 dx hS Q q => body j x d H2 Sa Sb dj (s.trans s2) hab kn2 dx hS Q q)
    fun D H2 ys hD s2 hd h => done D H2 ys (s.free hD) (s.trans s2) hd h
/-- all that is known -/
def old (H : Hp) : Addr → Prop := fun a => H a ≠ none
theorem kn_old {H : Hp} : Kn (old H) H := fun _ h => h
theorem old_of {S : Addr → Prop} {H : Hp} (k : Kn S H) : ∀ a, S a → old H a := k
/-- [y for x, y in pairs] -/
theorem lc_pair {K : PySem.W.Frag} {S : Addr → Prop} {H : Hp} {σ : L2.St} {t : TE} {s1 s2 : Nat} {vs : List Nat} {Q : VK} (Pd : List (PyData × PyData) → Prop) (kn : Kn S H)
    (hev : ∀ Q : VK, (∀ u H1 ds, Same H H1 → Pd ds → Dp K (off S H1) u (.list (ds.map fun d => .tuple [d.1, d.2])) → Q u H1) → t σ H Q) (hn : ∀ ds, Pd ds → ds.length ≤ 100000)
    (hw : ∀ x y, wipe (((wipe σ vs).set s1 (some x)).set s2 (some y)) vs = wipe σ vs) (hg : ∀ x y, (((wipe σ vs).set s1 (some x)).set s2 (some y))[s2]? = some (some y))
    (done : ∀ D H1 ys ds, Pd ds → H D = none → Same H H1 → H1 D = some (.lst ys) → Dp K (off S H1) (.ref D) (.list (ds.map Prod.snd)) → Q (.ref D) H1) :
    tLc (fun σ H R => iList K t σ H R ∨ iTup K t σ H R) (gTup K 2 (gCons (gName s1) (gCons (gName s2) gNil))) tYes (tVar s2) vs σ H Q := by
  refine .inl (hev _ fun u H1 ds s pd du => ?_)
  obtain ⟨ra, xs, rfl, hsq, ha⟩ := list_at du
  have hn := hn ds pd
  refine ⟨ra, rfl, ⟨xs, off_sub.seq hsq⟩, fun D hD => ?_⟩
  have w : Walk (Itl K ra) xs.length (fun H' => Same (off S H1) H') (YAt xs) := walk_list.mono (fun H' z => z.seq hsq) fun _ _ _ _ _ _ y => y
  have ln := dpa_len ha
  rw [List.length_map] at ln
  refine wlk w (fun x H' Nx => gTup K 2 (gCons (gName s1) (gCons (gName s2) gNil)) x (wipe σ vs) H' fun σ2 H2 => wipe σ2 vs = wipe σ vs ∧ tYes σ2 H2 fun b H3 => if b = true then tVar s2 σ2 H3 fun y H4 => ∃ acc, H4 D = some (.lst acc) ∧ acc.length < sizeLine ∧ Nx (upd H4 D (.lst (acc ++ [y]))) else Nx H3)
    (fun i H' => ∃ ys, DpAll K (off (plus S D) H') ys ((ds.take i).map Prod.snd) ∧ Same H1 H' ∧ H' D = some (.lst ys)) ⟨[], .nil, same_new hD, upd_same⟩ (fun i H' _ ⟨_, _, z, _⟩ => off_sub.trans z) ?_ ?_
  · rintro i x H2 H3 hi ⟨ys, py, z, hd⟩ ⟨rfl, xi⟩
    obtain ⟨d, dj, dx⟩ := dpa_at ha xi
    rw [List.getElem?_map] at dj
    cases di : ds[i]? with
    | none => rw [di] at dj; cases dj
    | some e =>
      rw [di] at dj
      obtain rfl := (Option.some.inj dj).symm
      obtain ⟨p, us, rfl, hs, hu⟩ := tup_at (dp_same (off_plus hD z) _ _ dx)
      obtain - | ⟨h1, - | ⟨h2, ⟨⟩⟩⟩ := hu
      rename_i u1 u2
      have hl : ys.length ≤ 100000 := by
        have := dpa_len py
        rw [List.length_map, List.length_take] at this
        omega
      refine ⟨p, _, rfl, same_t off_sub hs, rfl, u1, _, rfl, u2, _, rfl, rfl, hw u1 u2, t_yes ⟨u2, hg u1 u2, ys, hd, Nat.lt_of_le_of_lt hl (by decide), ys ++ [u2], ?_, smut z hD, upd_same⟩⟩
      rw [off_mut (show plus S D D from .inr rfl), List.take_add_one, di, List.map_append]
      exact dpa_app py (.cons h2 .nil)
  · rintro H2 ⟨ys, py, z, hd⟩
    refine done D H2 ys ds pd (s.free hD) (s.trans z) hd (dp_lst ((kn.same s).new hD) hd ?_)
    rw [ln, List.take_length] at py
    exact dpa_same (off_fin (D := D)) _ _ py
end Kh

set_option maxRecDepth 100000
set_option maxHeartbeats 2000000
/-! static methods; repr of data -/
namespace Kh
open PySem PySem.Spec PyProof.Rows L2
/-- C.m is a static method: its record at p, its def at g -/
structure SMet (K : PySem.W.Frag) (C : Addr) (mc : Value) (m : Str) (p g : Addr) : Prop where
  rd : PySem.W.readsIn K C mc = true
  ga : PySem.W.specialIn K (.ref C) "__getattribute__" = some (some (.builtin "type.__getattribute__"))
  at_ : PySem.W.findCls K (.ref C) mc m = some (.get (.builtin "staticmethod.__get__") (.ref p) .none (.ref C))
  rc : ∃ rest, PySem.W.recIn K p "staticmethod" = some (.ref g :: rest)
  kp : PySem.W.keepIn K (.ref g) = true
def tSMeth (C : Addr) (sp : Sp) (E : XK) (ta : TE) (t : TA) : TE := fun σ H Q => ta σ H fun x H1 => x = .ref C ∧ t σ H1 fun vs H2 => sp vs H2 Q E
section
variable {X : Cx} {CX : CXT} {k : Nat} {C p g : Addr} {mc : Value} {sp : Sp} {E : XK} {o e : Expr} {es : List Expr} {f m : Str} {pos apos : Pos} {ta : TE} {t : TA} {pl : Sem Bool}
theorem pe_smeth (he : PE X o ta) (c : SMet X.K C mc m p g) (F : FnR X.prog X.w X.K X.mg X.base CX k g sp) (hr : Room k X.A) (hx : Passes CX X E) (ha : PA X (e :: es) t)
    (hst : starEach (e :: es) X.env = (false, eval e X.env) :: starEach es X.env := by rfl) (hpl : (backTo pos (starEach es X.env)).any (·.1) = false := by rfl)
    (ht : eval (.Call (.Attribute o m apos) (e :: es) [] pos) X.env = (do
      let ov ← eval o X.env; standAt apos.atName; let (f, first) ← holding [ov] (getMethod ov m pl); callWith pos f first (backTo pos (starEach (e :: es) X.env)) (backToKw pos (keywordEach [] X.env))) := by rfl) :
    PE X (.Call (.Attribute o m apos) (e :: es) [] pos) (tSMeth C sp E ta t) := by
  refine ⟨fun pins s σ H Q I h => ?_⟩
  refine PySem.W.methodCall_KW (pl := pl) (thn (he.run pins s σ H _ I h) fun u s1 ⟨x, H1, I1, rx, ex, q⟩ => ?_) ht
  subst ex
  obtain rfl : u = Value.ref C := rx
  obtain ⟨rest, hp⟩ := c.rc
  refine PySem.W.method_cls I1.kIn c.ga (PySem.W.cls_bind I1.kIn c.rd c.at_ (wpAny_call (PySem.W.sm_get (s := { s1 with toks := s1.toks + 1 }) I1.kIn hp (PySem.W.handed_on rfl ?_))))
  have I2 := I1.tok (s1.toks + 1)
  refine PySem.W.callWith_K (first := []) (h₀ := X.base) I2.ok.mod.kin c.kp (thn (ha.run pos pins _ σ H1 _ I2 q) fun us s3 ⟨vs, H2, I3, rv, q2⟩ => ⟨I3.kIn, ?_⟩) hst hpl
  exact wpAny_call (run_fnR F hr hx I3 rv q2)
end
/-- what repr can tell -/
def Tells (K : PySem.W.Frag) (H : Hp) (v : V) (d : PyData) : Prop := Dp K H v d ∧ (∃ n m, Nice n m d ∧ n ≤ 1000000 ∧ m ≤ 60) ∧ ((∃ i, d = .int i) ∨ ∃ ds, items d = some ds)
def rReprD (K : PySem.W.Frag) : List V → Hp → VK → Prop := fun vs H Q => ∃ v d, vs = [v] ∧ Tells K H v d ∧ Q (.str d.shown) H
def tFmtD (K : PySem.W.Frag) (te : TE) : TE := fun σ H Q => te σ H fun x H1 => ∃ d, Tells K H1 x d ∧ Q (.str d.shown) H1
section
variable {X : Cx}
theorem cr_reprD (hg : X.A.guards = some []) (hu : X.A.units + 64 < cLine) : CallR X (.builtin "repr") (rReprD X.K) := by
  intro pins s σ H vs us Q I r h
  obtain ⟨v, d, rfl, ⟨hd, ⟨n, m, hn, hn1, hm1⟩, kind⟩, q⟩ := h
  obtain ⟨u, rfl, ru⟩ := r.one
  rcases kind with ⟨i, rfl⟩ | ⟨ds, hds⟩
  · cases hd
    obtain ⟨t, rfl⟩ := ru
    have hz : i.natAbs.log2 < 1920 := by have := hn.sw; rw [PyData.showable] at this; exact of_decide_eq_true this
    rw [PyData.shown] at q
    exact PySem.P.repr_of_int hz ⟨.str (toString i), H, I.tok _, ⟨_, rfl⟩, q⟩
  · obtain ⟨b, xs, rfl, _, _⟩ := items_at hd hds
    have ru' := ru
    cases ru
    obtain ⟨as, rd⟩ := Dp.reads I d (.ref b) _ hd ru'
    refine repr_of_reads' rd hn.sw (fun z => by rw [hn.nd] at z; cases z) hg (by have := hn.dp; omega) (fun _ _ z => z) (fun h' u tk kp => ?_) (hn.fits hn1)
    exact ⟨.str d.shown, H, I.kept (t' := tk) kp, ⟨u, rfl⟩, q⟩
theorem pe_fmtD {e : Expr} {te : TE} {pos : Pos} (hg : X.A.guards = some []) (hu : X.A.units + 64 < cLine) (he : PE X e te) : PE X (.FormattedValue e 114 none pos) (tFmtD X.K te) := by
  refine ⟨fun pins s σ H Q I h => ?_⟩
  refine wpAny_FormattedValue_repr (thn (he.run pins s σ H _ I h) fun u s1 hv => ?_)
  obtain ⟨x, H1, I1, r1, d, ⟨hd, ⟨n, m, hn, hn1, hm1⟩, kind⟩, q⟩ := hv
  rcases kind with ⟨i, rfl⟩ | ⟨ds, hds⟩
  · cases hd
    obtain ⟨t, rfl⟩ := r1
    have hz : i.natAbs.log2 < 1920 := by have := hn.sw; rw [PyData.showable] at this; exact of_decide_eq_true this
    rw [PyData.shown] at q
    exact pyReprObj_int hz (wpAny_formatField_str ⟨.str (toString i), H1, I1.tok _, ⟨_, rfl⟩, q⟩ ⟨.str (toString i), H1, I1.tok _, ⟨_, rfl⟩, q⟩ (int_text_fits hz))
  · obtain ⟨b, xs, rfl, _, _⟩ := items_at hd hds
    have ru' := r1
    cases r1
    obtain ⟨as, rd⟩ := Dp.reads I1 d (.ref b) _ hd ru'
    refine pyReprObj_of_reads rd hn.sw (fun z => by rw [hn.nd] at z; cases z) hg (by have := hn.dp; omega) (fun _ _ z => z) (fun h' u tk kp => ?_) (hn.fits hn1)
    have I2 := I1.kept (t' := tk) kp
    exact wpAny_formatField_str ⟨.str d.shown, H1, I2, ⟨_, rfl⟩, q⟩ ⟨.str d.shown, H1, I2.tok _, ⟨_, rfl⟩, q⟩ (hn.fits hn1)
end
/-! keywords -/
theorem kbn_of {K : PySem.W.Frag} {fd : FuncData} {ps ks : List Str} {n : Nat} (h : ∀ us ws : List Value, us.length = n → ws.length = ks.length → bindArgs fd ⟨us, ks.zip ws⟩ = pure (ps.zip (us ++ ws))) : KBn K fd ps n ks (fun us ws => us ++ ws) (fun vs zs => vs ++ zs) :=
  ⟨fun s us ws _ h1 h2 => .of_eq (h us ws h1 h2), fun r1 r2 => r1.append r2⟩
section
variable {X : Cx} {k n : Nat} {f C : Addr} {fd : FuncData} {ps ks : List Str} {sp : Sp} {x m : Str} {p pos apos : Pos} {o : Expr} {kws : List Keyword} {ta : TE} {tk : TA} {pl : Sem Bool}
theorem run_kw {pins : List (Addr × Obj)} {σ : L2.St} {H : Hp} {s : Shared} {Q : VK} {us ws : List Value} {vs zs : List V} (F : FnOk X.prog X.w X.K X.mg X.base CX0 k f fd ps sp) (hr : Room k X.A) (hb : KBn X.K fd ps n ks (fun us ws => us ++ ws) (fun vs zs => vs ++ zs))
    (I : Inv X pins σ H s) (r : Vals vs us) (rz : Vals zs ws) (l1 : us.length = n) (l2 : ws.length = ks.length) (h : sp (vs ++ zs) H Q E0) : wpAny (model X.prog X.w) X.A (call (.ref f) us (ks.zip ws)) (EP X pins σ Q) X.xe s := by
  have r2 := hb.rel r rz
  refine wpAny_call (codeAny_mono (F.run X.A X.stack s H ⟨us, ks.zip ws⟩ (us ++ ws) (vs ++ zs) Q E0 hr I.env0 (hb.to s us ws I.kIn l1 l2) r2 h) fun r s' hq => ?_)
  cases r with
  | error e => exact (show False from hq).elim
  | ok fl =>
    cases fl with
    | ret u => exact I.after hq
    | next => exact (show False from hq).elim
    | brk => exact (show False from hq).elim
    | cont => exact (show False from hq).elim
def tCallK0 (n : Nat) (sp : Sp) (tk : TA) : TE := fun σ H Q => tk σ H fun zs H2 => zs.length = n ∧ sp zs H2 Q E0
/-- f(k = v) -/
theorem pe_kw0 (F : FnOk X.prog X.w X.K X.mg X.base CX0 k f fd ps sp) (hr : Room k X.A) (hg : Gl X x) (hm : X.mg x = some (.ref f)) (hk : PySem.W.keepIn X.K (.ref f) = true) (hb : KBn X.K fd ps 0 ks (fun us ws => us ++ ws) (fun vs zs => vs ++ zs)) (hkw : PK X kws tk)
    (hall : (backToKw pos (keywordEach kws X.env)).all (·.1.isSome) = true := by rfl) (hks : (backToKw pos (keywordEach kws X.env)).filterMap (·.1) = ks := by rfl) (hdb : (x == ("__debug__" : Str)) = false := by decide)
    (hpl : ((backTo pos (starEach [] X.env)).any (·.1) || (backToKw pos (keywordEach kws X.env)).any (·.1.isNone)) = false := by rfl) :
    PE X (.Call (.Name x p) [] kws pos) (tCallK0 ks.length sp tk) := by
  refine ⟨fun pins s σ H Q I h => ?_⟩
  refine wpAny_Call_Name_kw (ld_glob I hg hm ?_ hdb)
  refine PySem.W.callWith_KW0 (h₀ := X.base) I.ok.mod.kin hk hall ?_ hpl
  refine thn (hkw.run pos pins s σ H _ I h) fun ws s2 ⟨zs, H2, I2, rz, l2, q2⟩ => ⟨I2.kIn, ?_⟩
  rw [hks]
  exact run_kw (us := []) (vs := []) F hr hb I2 .nil rz rfl (rz.length.symm.trans l2) q2
def tMethK0 (C : Addr) (m : Str) (n : Nat) (sp : Sp) (ta : TE) (tk : TA) : TE := fun σ H Q => ta σ H fun x H1 => ∃ a dx fs, x = .ref a ∧ H1 a = some (.ins C dx fs) ∧ fs.lookup m = none ∧ tk σ H1 fun zs H2 => zs.length = n ∧ sp (x :: zs) H2 Q E0
/-- o.m(k = v) -/
theorem pe_methK0 (he : PE X o ta) (c : Cls X.K C) (hm : Meth X.K C m f) (F : FnOk X.prog X.w X.K X.mg X.base CX0 k f fd ps sp) (hr : Room k X.A) (hb : KBn X.K fd ps 1 ks (fun us ws => us ++ ws) (fun vs zs => vs ++ zs)) (hkw : PK X kws tk)
    (hall : (backToKw pos (keywordEach kws X.env)).all (·.1.isSome) = true := by rfl) (hks : (backToKw pos (keywordEach kws X.env)).filterMap (·.1) = ks := by rfl)
    (hpl : ((backTo pos (starEach [] X.env)).any (·.1) || (backToKw pos (keywordEach kws X.env)).any (·.1.isNone)) = false := by rfl)
    (ht : eval (.Call (.Attribute o m apos) [] kws pos) X.env = (do
      let ov ← eval o X.env; standAt apos.atName; let (f, first) ← holding [ov] (getMethod ov m pl); callWith pos f first (backTo pos (starEach [] X.env)) (backToKw pos (keywordEach kws X.env))) := by rfl) :
    PE X (.Call (.Attribute o m apos) [] kws pos) (tMethK0 C m ks.length sp ta tk) := by
  refine ⟨fun pins s σ H Q I h => ?_⟩
  refine PySem.W.methodCall_KW (pl := pl) (thn (he.run pins s σ H _ I h) fun u s1 ⟨x, H1, I1, rx, a, dx, fs, ex, ea, l, q⟩ => ?_) ht
  subst ex
  obtain rfl : u = Value.ref a := rx
  refine getmeth_ok I1 ea c hm l ?_
  refine PySem.W.callWith_KW0 (first := [.ref a]) (h₀ := X.base) I1.ok.mod.kin hm.kp hall ?_ hpl
  refine thn (hkw.run pos pins s1 σ H1 _ I1 q) fun ws s2 ⟨zs, H2, I2, rz, l2, q2⟩ => ⟨I2.kIn, ?_⟩
  rw [hks]
  exact run_kw (us := [.ref a]) (vs := [.ref a]) F hr hb I2 (.cons rfl .nil) rz rfl (rz.length.symm.trans l2) q2
end
end Kh

set_option maxRecDepth 100000
set_option maxHeartbeats 1000000
/-! x in a list of data; f(k2 = v, k1 = u) -/
namespace Kh
open PySem PySem.Spec PyProof.Rows L2
theorem k_inD {X : Cx} {K : PySem.W.Frag} {k : Nat} (hr : Room k X.A) (h : X.K = K := by rfl) : OpR X (compareOp .In) (rInD K) := by subst h; exact op_inD (by have := hr.un; omega)
theorem vals_rev : ∀ {vs : List V} {us : List Value}, Vals vs us → Vals vs.reverse us.reverse
  | _, _, .nil => .nil
  | _, _, .cons r t => by rw [List.reverse_cons, List.reverse_cons]; exact (vals_rev t).append (.cons r .nil)
theorem kbr_of {K : PySem.W.Frag} {fd : FuncData} {ps ks : List Str} (h : ∀ ws : List Value, ws.length = ks.length → bindArgs fd ⟨[], ks.zip ws⟩ = pure (ps.zip ws.reverse)) : KBn K fd ps 0 ks (fun us ws => us ++ ws.reverse) (fun vs zs => vs ++ zs.reverse) :=
  ⟨fun s us ws _ h1 h2 => by
    rw [List.eq_nil_of_length_eq_zero h1]
    exact .of_eq (h ws h2), fun r1 r2 => r1.append (vals_rev r2)⟩
section
variable {X : Cx} {k : Nat} {f : Addr} {fd : FuncData} {ps ks : List Str} {sp : Sp} {x : Str} {p pos : Pos} {kws : List Keyword} {tk : TA}
def tCallKR (n : Nat) (sp : Sp) (tk : TA) : TE := fun σ H Q => tk σ H fun zs H2 => zs.length = n ∧ sp zs.reverse H2 Q E0
/-- f(k2 = v, k1 = u), the names the other way round -/
theorem pe_kwR (F : FnOk X.prog X.w X.K X.mg X.base CX0 k f fd ps sp) (hr : Room k X.A) (hg : Gl X x) (hm : X.mg x = some (.ref f)) (hk : PySem.W.keepIn X.K (.ref f) = true) (hb : KBn X.K fd ps 0 ks (fun us ws => us ++ ws.reverse) (fun vs zs => vs ++ zs.reverse)) (hkw : PK X kws tk)
    (hall : (backToKw pos (keywordEach kws X.env)).all (·.1.isSome) = true := by rfl) (hks : (backToKw pos (keywordEach kws X.env)).filterMap (·.1) = ks := by rfl) (hdb : (x == ("__debug__" : Str)) = false := by decide)
    (hpl : ((backTo pos (starEach [] X.env)).any (·.1) || (backToKw pos (keywordEach kws X.env)).any (·.1.isNone)) = false := by rfl) :
    PE X (.Call (.Name x p) [] kws pos) (tCallKR ks.length sp tk) := by
  refine ⟨fun pins s σ H Q I h => ?_⟩
  refine wpAny_Call_Name_kw (ld_glob I hg hm ?_ hdb)
  refine PySem.W.callWith_KW0 (h₀ := X.base) I.ok.mod.kin hk hall ?_ hpl
  refine thn (hkw.run pos pins s σ H _ I h) fun ws s2 ⟨zs, H2, I2, rz, l2, q2⟩ => ⟨I2.kIn, ?_⟩
  rw [hks]
  refine wpAny_call (codeAny_mono (F.run X.A X.stack s2 H2 ⟨[], ks.zip ws⟩ ([] ++ ws.reverse) ([] ++ zs.reverse) Q E0 hr I2.env0 (hb.to s2 [] ws I2.kIn rfl (rz.length.symm.trans l2)) (hb.rel .nil rz) q2) fun r s' hq => ?_)
  cases r with
  | error e => exact (show False from hq).elim
  | ok fl =>
    cases fl with
    | ret u => exact I2.after hq
    | next => exact (show False from hq).elim
    | brk => exact (show False from hq).elim
    | cont => exact (show False from hq).elim
end
end Kh

set_option maxRecDepth 100000
set_option maxHeartbeats 1000000
/-! comprehensions over zip -/
namespace Kh
open PySem PySem.Spec PyProof.Rows L2
theorem lcZ {α β : Type} {K : PySem.W.Frag} {S : Addr → Prop} {H : Hp} {σ : L2.St} {ta : TA} {te : TE} {s1 s2 : Nat} {vs : List Nat} {Q : VK} (ms : List α) (ns : List β) (f : α → PyData) (f2 : β → PyData) (g : α × β → PyData) (kn : Kn S H)
    (hev : ∀ Q : List V → Hp → Prop, (∀ u1 u2 H1, Same H H1 → Dp K (off S H1) u1 (.list (ms.map f)) → Dp K (off S H1) u2 (.list (ns.map f2)) → Q [u1, u2] H1) → ta σ H Q) (hn : ms.length ≤ 100000)
    (hw : ∀ x y, wipe (((wipe σ vs).set s1 (some x)).set s2 (some y)) vs = wipe σ vs)
    (body : ∀ m n, (m, n) ∈ ms.zip ns → ∀ x y H1 S', Same H H1 → Kn S' H1 → Dp K (off S' H1) x (f m) → Dp K (off S' H1) y (f2 n) → (∀ a, S a → S' a) → Same (off S H) (off S' H1) → ∀ Q : VK, (∀ z H', Same H1 H' → Dp K (off S' H') z (g (m, n)) → Q z H') → te (((wipe σ vs).set s1 (some x)).set s2 (some y)) H1 Q)
    (done : ∀ D H1 ys, H D = none → Same H H1 → H1 D = some (.lst ys) → Dp K (off S H1) (.ref D) (.list ((ms.zip ns).map g)) → Q (.ref D) H1) :
    tLc (iZip K ta) (gTup K 2 (gCons (gName s1) (gCons (gName s2) gNil))) tYes te vs σ H Q := by
  refine hev _ fun u1 u2 H1 s h1 h2 => ?_
  obtain ⟨ra, xs, rfl, hsa, ha⟩ := list_at h1
  obtain ⟨rb, ys, rfl, hsb, hb⟩ := list_at h2
  refine ⟨ra, rb, xs, ys, rfl, off_sub.seq hsa, off_sub.seq hsb, fun D hD => ?_⟩
  have la := dpa_len ha
  have lb := dpa_len hb
  rw [List.length_map] at la lb
  have kn1 := kn.same s
  have hG : ∀ H', Same H1 H' → SqL K H' ra xs ∧ SqL K H' rb ys := fun H' z => ⟨(off_sub.trans z).seq hsa, (off_sub.trans z).seq hsb⟩
  refine wlk (walk_zip (K := K) (a := ra) (b := rb) (xs := xs) (ys := ys) (n := (ms.zip ns).length) (by rw [List.length_zip, la, lb])) (fun x H' Nx => gTup K 2 (gCons (gName s1) (gCons (gName s2) gNil)) x (wipe σ vs) H' fun σ2 H2 => wipe σ2 vs = wipe σ vs ∧ tYes σ2 H2 fun b H3 => if b = true then te σ2 H3 fun y H4 => ∃ acc, H4 D = some (.lst acc) ∧ acc.length < sizeLine ∧ Nx (upd H4 D (.lst (acc ++ [y]))) else Nx H3)
    (fun i H' => ∃ zs, DpAll K (off (plus S D) H') zs (((ms.zip ns).map g).take i) ∧ Same H1 H' ∧ H' D = some (.lst zs)) ⟨[], .nil, same_new hD, upd_same⟩ (fun i H' _ ⟨_, _, z, _⟩ => hG H' z) ?_ ?_
  · rintro i x H2 H3 hi ⟨zs, py, z, hd⟩ ⟨T0, x1, y1, rfl, hT, rfl, hx, hy⟩
    obtain ⟨d, dj, dx⟩ := dpa_at ha hx
    obtain ⟨e, ej, dy⟩ := dpa_at hb hy
    obtain ⟨m, hj, hm, rfl⟩ := at_map dj
    obtain ⟨n, nj, hn', rfl⟩ := at_map ej
    have zj : (ms.zip ns)[i]? = some (m, n) := by rw [List.getElem?_zip_eq_some]; exact ⟨hj, nj⟩
    have sT := same_new (o := HO.tup [x1, y1]) hT
    have z3 := z.trans sT
    have hd3 := sT _ _ hd
    have hT3 : (upd H2 T0 (.tup [x1, y1])) T0 = some (.tup [x1, y1]) := upd_same
    have py3 := dpa_same (off_same (S := plus S D) sT) _ _ py
    generalize upd H2 T0 (.tup [x1, y1]) = H3 at *
    have hl : zs.length ≤ 100000 := by
      have := dpa_len py
      rw [List.length_take, List.length_map, List.length_zip] at this
      omega
    refine ⟨T0, [x1, y1], rfl, sqT hT3, rfl, x1, [y1], rfl, y1, [], rfl, rfl, hw x1 y1, t_yes ?_⟩
    refine body m n (List.mem_of_getElem? zj) x1 y1 H3 (plus S D) (s.trans z3) ((kn1.same z3).plus (some_ne hd3)) (dp_same (off_plus hD z3) _ _ dx) (dp_same (off_plus hD z3) _ _ dy) (fun _ h => .inl h) ((off_same s).trans (off_plus hD z3)) _ fun u H7 s7 d7 => ?_
    refine ⟨zs, s7 _ _ hd3, Nat.lt_of_le_of_lt hl (by decide), zs ++ [u], ?_, smut (z3.trans s7) hD, upd_same⟩
    rw [off_mut (show plus S D D from .inr rfl), List.take_add_one, List.getElem?_map, zj]
    exact dpa_app (dpa_same (off_same s7) _ _ py3) (.cons d7 .nil)
  · rintro H2 ⟨zs, py, z, hd⟩
    refine done D H2 zs (s.free hD) (s.trans z) hd (dp_lst (kn1.new hD) hd ?_)
    rw [List.take_of_length_le (by rw [List.length_map]; exact Nat.le_refl _)] at py
    exact dpa_same (off_fin (D := D)) _ _ py
end Kh

set_option maxRecDepth 100000
set_option maxHeartbeats 4000000
namespace K31
open PySem PySem.Spec PyProof.Rows L2 Kh
section
variable {P : Program} {w : World} {K : PySem.W.Frag} {mg : Str → Option Value} {base : Heap} {a : Nat → Addr} {fd : Nat → FuncData} {C : Addr} {tk : Nat → Tok}
theorem off_bt {S : Addr → Prop} {x : Addr} {H H' : Hp} (hx : S x) (e : SameBut x H H') : Same (off S H) (off S H') := fun b o h => by
  obtain ⟨n, h⟩ := off_some h
  rw [off_out n]
  exact e b o (fun z => n (z ▸ hx)) h
theorem kn_bt {S : Addr → Prop} {x : Addr} {H H' : Hp} (kn : Kn S H) (e : SameBut x H H') (hx : H' x ≠ none) : Kn S H' := fun b z => by
  by_cases q : b = x
  · subst q; exact hx
  · cases h : H b with
    | none => exact (kn b z h).elim
    | some o => rw [e b o q h]; exact fun z => nomatch z
end
section
variable {P : Program} {w : World} {K : PySem.W.Frag} {mg : Str → Option Value} {base : Heap} {a : Nat → Addr} {fd : Nat → FuncData} {C : Addr} {tk : Nat → Tok}
theorem off_sb {S : Addr → Prop} {D : Addr} {H H' : Hp} (e : SameBut D H H') : Same (off (plus S D) H) H' := fun c o h => e c o (fun z => (off_some h).1 (.inr z)) (off_some h).2
end
theorem sb_trans {D : Addr} {H H1 H2 : Hp} (x : SameBut D H H1) (y : SameBut D H1 H2) : SameBut D H H2 := fun b o n h => y b o n (x b o n h)
theorem PotAt.same {p : Addr} {H H' : Hp} (h : PotAt H p) (e : Same H H') : PotAt H' p := by obtain ⟨x, y, h, hy⟩ := h; exact ⟨x, y, e _ _ h, hy⟩
theorem PotAt.some {p : Addr} {H : Hp} (h : PotAt H p) : H p ≠ none := by obtain ⟨x, y, h, hy⟩ := h; exact some_ne h
theorem off_plusB {S : Addr → Prop} {p D : Addr} {H1 H : Hp} (hS : S p) (hD : H1 D = none) (s : SameBut p H1 H) : Same (off S H1) (off (plus S D) H) := fun b o h => by
  obtain ⟨n, h⟩ := off_some h
  rw [off_out]
  · exact s b o (fun z => n (z ▸ hS)) h
  · rintro (z | rfl)
    · exact n z
    · rw [hD] at h; cases h
theorem off_keep {S : Addr → Prop} {p : Addr} {H H' : Hp} (hS : S p) (e : SameBut p H H') : Same (off S H) H' := (off_bt hS e).trans off_sub
section
variable {K : PySem.W.Frag} {S : Addr → Prop} {p : Addr} {H1 : Hp} {σ : L2.St} {te : TE} {sl : Nat} {vs : List Nat} {Qd : VK} {J : It} {n : Nat} {G : Hp → Prop} {Y : Nat → Hp → V → Hp → Prop}
end
section
variable {P : Program} {w : World} {K : PySem.W.Frag} {mg : Str → Option Value} {base : Heap} {a : Nat → Addr} {fd : Nat → FuncData} {C : Addr} {tk : Nat → Tok}
theorem dec_int (n m : Nat) : decide (V.int (n : Nat) = V.int (m : Nat)) = decide (n = m) := decide_eq_decide.mpr ⟨fun h => by have := V.int.inj h; omega, fun h => by rw [h]⟩
end
abbrev ivs (ns : List Nat) : List V := ns.map fun n : Nat => V.int (n : Nat)
theorem cut_drop (xs : List V) (m : Nat) (h : m ≤ xs.length) : cutV xs (some (m : Nat)) none = xs.drop m := by
  unfold cutV
  rw [HT.sIx_none, HT.sIx_nat, Nat.min_eq_left h, List.take_of_length_le (by rw [List.length_drop]; omega)]
section
variable {P : Program} {w : World} {K : PySem.W.Frag} {mg : Str → Option Value} {base : Heap} {a : Nat → Addr} {fd : Nat → FuncData} {C : Addr} {tk : Nat → Tok}
theorem min2_of {H : Hp} {Q : VK} {i j m : Int} (e : (if j < i then j else i) = m) (q : Q (.int m) H) : rMin2 [.int i, .int j] H Q := ⟨i, j, rfl, by rw [e]; exact q⟩
theorem t_sl {r : V → Option Int → Option Int → Hp → VK → Prop} {te : TE} {tl th : TO} {σ : L2.St} {H : Hp} {Q : VK} (h : te σ H fun x H1 => tl σ H1 fun l H2 => th σ H2 fun u H3 => r x l u H3 Q) : tSl r te tl th σ H Q := h
end
section
variable {P : Program} {w : World} {K : PySem.W.Frag} {mg : Str → Option Value} {base : Heap} {a : Nat → Addr} {fd : Nat → FuncData} {C : Addr} {tk : Nat → Tok}
theorem nats_dpa {H : Hp} : ∀ ns : List Nat, DpAll K H (ns.map fun n : Nat => V.int (n : Nat)) (ns.map nD)
  | [] => .nil
  | n :: ns => .cons (.int _) (nats_dpa ns)
theorem dpa_nats {H : Hp} : ∀ {ns : List Nat} {vs : List V}, DpAll K H vs (ns.map nD) → vs = ns.map fun n : Nat => V.int (n : Nat)
  | [], _, h => by cases h; rfl
  | n :: ns, _, h => by
    cases h with
    | cons h1 h2 => cases h1; rw [dpa_nats h2]; rfl
theorem o_none {σ : L2.St} {H : Hp} {q : Option Int → Hp → Prop} (h : q none H) : tNoPart σ H q := h
theorem o_some {te : TE} {σ : L2.St} {H : Hp} {q : Option Int → Hp → Prop} (h : te σ H fun x H1 => ∃ i, x = .int i ∧ q (some i) H1) : tPart te σ H q := h
theorem cut_take (xs : List V) (m : Nat) (h : m ≤ xs.length) : cutV xs none (some (m : Nat)) = xs.take m := by
  unfold cutV
  rw [HT.sIx_none, HT.sIx_nat, List.drop_zero]
  congr 1; omega
end
section
variable {P : Program} {w : World} {K : PySem.W.Frag} {mg : Str → Option Value} {base : Heap} {a : Nat → Addr} {fd : Nat → FuncData} {C : Addr} {tk : Nat → Tok}
theorem take_snoc' {α : Type} {ns : List α} {i : Nat} {n : α} (h : ns[i]? = some n) : ns.take (i + 1) = ns.take i ++ [n] := by rw [List.take_add_one, h]; rfl
theorem dpa_take {K : PySem.W.Frag} {H : Hp} : ∀ {xs : List V} {ds : List PyData} (n : Nat), DpAll K H xs ds → DpAll K H (xs.take n) (ds.take n)
  | _, _, 0, _ => by rw [List.take_zero, List.take_zero]; exact .nil
  | _, _, n + 1, .nil => .nil
  | _, _, n + 1, .cons h t => .cons h (dpa_take n t)
theorem dpa_drop {K : PySem.W.Frag} {H : Hp} : ∀ {xs : List V} {ds : List PyData} (n : Nat), DpAll K H xs ds → DpAll K H (xs.drop n) (ds.drop n)
  | _, _, 0, h => h
  | _, _, n + 1, .nil => .nil
  | _, _, n + 1, .cons h t => dpa_drop n t
theorem sl_drop {α : Type} {S : Addr → Prop} {H : Hp} {x : V} {ms : List α} {f : α → PyData} {m : Nat} {Q : VK} (kn : Kn S H) (hx : Dp K (off S H) x (.list (ms.map f))) (hm : m ≤ ms.length)
    (q : ∀ u H', Same H H' → Dp K (off S H') u (.list ((ms.drop m).map f)) → Q u H') : rSlL K x (some (m : Nat)) none H Q := by
  obtain ⟨l, xs, rfl, h1, d1⟩ := list_at hx
  have hl := dpa_len d1
  rw [List.length_map] at hl
  refine ⟨l, xs, rfl, off_sub.seq h1, fun p hp => ?_⟩
  rw [cut_drop _ _ (by omega)]
  exact q _ _ (same_new hp) (dp_newL kn hp (by rw [List.map_drop]; exact dpa_drop m d1))
theorem sl_take {α : Type} {S : Addr → Prop} {H : Hp} {x : V} {ms : List α} {f : α → PyData} {m : Nat} {Q : VK} (kn : Kn S H) (hx : Dp K (off S H) x (.list (ms.map f))) (hm : m ≤ ms.length)
    (q : ∀ u H', Same H H' → Dp K (off S H') u (.list ((ms.take m).map f)) → Q u H') : rSlL K x none (some (m : Nat)) H Q := by
  obtain ⟨l, xs, rfl, h1, d1⟩ := list_at hx
  have hl := dpa_len d1
  rw [List.length_map] at hl
  refine ⟨l, xs, rfl, off_sub.seq h1, fun p hp => ?_⟩
  rw [cut_take _ _ (by omega)]
  exact q _ _ (same_new hp) (dp_newL kn hp (by rw [List.map_take]; exact dpa_take m d1))
theorem nat_bits {n b : Nat} (h : n < 2 ^ b) : ((n : Nat) : Int).natAbs < 2 ^ b := by simpa using h
end
section
variable {P : Program} {w : World} {K : PySem.W.Frag} {mg : Str → Option Value} {base : Heap} {a : Nat → Addr} {fd : Nat → FuncData} {C : Addr} {tk : Nat → Tok}
theorem s_enum {iv : Nat} {a : Addr} {xs : List V} {s1 s2 : Nat} {tb : TS} {D : Ends} {σ : L2.St} {H : Hp} (hi : σ[iv]? = some (some (.ref a))) (hs : SqL K H a xs) (Pv : Nat → L2.St → Hp → Prop) (h0 : Pv 0 σ H) (hG : ∀ i σ' H', Pv i σ' H' → SqL K H' a xs)
    (hst : ∀ i x σ' H' H'', i < xs.length → xs[i]? = some x → Pv i σ' H' → Same H' H'' → tb { D with nx := Pv (i + 1), ct := Pv (i + 1), bk := D.nx } ((σ'.set s1 (some (.int (i : Nat)))).set s2 (some x)) H'') (hd : ∀ σ' H', Pv xs.length σ' H' → D.nx σ' H') :
    tFor (iEnum K (tCons (tVar iv) tNil)) (gTup K 2 (gCons (gName s1) (gCons (gName s2) gNil))) tb D σ H := by
  unfold tFor iEnum
  refine a_cons (t_var hi (a_nil ?_))
  refine ⟨a, xs, rfl, hs, for_it (walk_enum (K := K) (a := a) (xs := xs)) Pv h0 (fun i σ' H' _ p => hG i σ' H' p) (fun i x σ' H' H'' hi p y => ?_) hd⟩
  obtain ⟨T0, x1, y1, rfl, hT, rfl, hx, hy⟩ := y
  cases hx
  refine ⟨T0, [_, y1], rfl, sqT upd_same, rfl, _, [y1], rfl, y1, [], rfl, rfl, ?_⟩
  exact hst i y1 σ' H' _ hi hy p (same_new hT)
theorem s_asgg {te : TE} {g : TG} {D : Ends} {σ : L2.St} {H : Hp} (h : te σ H fun v H1 => g v σ H1 D.nx) : tAsg te g D σ H := h
end
section
variable {P : Program} {w : World} {K : PySem.W.Frag} {mg : Str → Option Value} {base : Heap} {a : Nat → Addr} {fd : Nat → FuncData} {C : Addr} {tk : Nat → Tok}
theorem g_tup2 {i j : Nat} {v : V} {σ : L2.St} {H1 : Hp} {S0 : Addr → Prop} {d1 d2 : PyData} {Q : L2.St → Hp → Prop} (hd : Dp K (off S0 H1) v (.tuple [d1, d2]))
    (k : ∀ x y, Dp K (off S0 H1) x d1 → Dp K (off S0 H1) y d2 → Q ((σ.set i (some x)).set j (some y)) H1) : gTup K 2 (gCons (gName i) (gCons (gName j) gNil)) v σ H1 Q := by
  obtain ⟨r, xs, rfl, hs, ha⟩ := tup_at hd
  obtain - | ⟨h1, - | ⟨h2, ⟨⟩⟩⟩ := ha
  rename_i x y
  exact ⟨r, [x, y], rfl, same_t off_sub hs, rfl, x, [y], rfl, y, [], rfl, rfl, k x y h1 h2⟩
end
section
variable {P : Program} {w : World} {K : PySem.W.Frag} {mg : Str → Option Value} {base : Heap} {a : Nat → Addr} {fd : Nat → FuncData} {C : Addr} {tk : Nat → Tok}
theorem kn_sb {S : Addr → Prop} {p : Addr} {H H' : Hp} (kn : Kn S H) (sb : SameBut p H H') (hp : PotAt H' p) : Kn S H' := fun b hb => by
  by_cases e : b = p
  · subst e; exact hp.some
  · cases h : H b with
    | none => exact (kn b hb h).elim
    | some o => rw [sb b o e h]; exact fun z => nomatch z
theorem s_setC {te : TE} {i : Nat} {σ : L2.St} {H : Hp} {D : Ends} (Cnd : V → Hp → Prop) (k : ∀ v H', Cnd v H' → D.nx (σ.set i (some v)) H') (h : ∀ N : VK, (∀ v H', Cnd v H' → N v H') → te σ H N) : tAsg te (gName i) D σ H := h (fun v H' => D.nx (σ.set i (some v)) H') k
end
/-- [e for x in range(n)], e a truth value -/
theorem lc_rngB {K : PySem.W.Frag} {S : Addr → Prop} {H : Hp} {σ : L2.St} {te : TE} {sl : Nat} {vs : List Nat} {Q : VK} {n : Nat} {ta : TA} (f : Nat → Bool) (kn : Kn S H) (hn : n ≤ 1000)
    (hev : ∀ q : List V → Hp → Prop, (∀ H1, Same H H1 → q [.int (n : Nat)] H1) → ta σ H q) (hw : ∀ x, wipe ((wipe σ vs).set sl (some x)) vs = wipe σ vs)
    (body : ∀ j H1 S', j < n → Same H H1 → Kn S' H1 → (∀ a, S a → S' a) → Same (off S H) (off S' H1) → ∀ Q : VK, (∀ H', Same H1 H' → Q (.bl (f j)) H') → te ((wipe σ vs).set sl (some (.int (j : Nat)))) H1 Q)
    (done : ∀ D H1, Same H H1 → Dp K (off S H1) (.ref D) (.list (((List.range n).map f).map PyData.bool)) → Q (.ref D) H1) :
    tLc (iRng1 ta) (gName sl) tYes te vs σ H Q := by
  refine lc_rngF (K := K) (n := n) (fun _ => true) (fun j => .bool (f j)) kn (by omega) hev hw (fun j H1 S' _ _ _ _ _ Q q => q H1 (Same.refl _)) (fun j H1 S' hj _ s kn' hS ho Q q => body j H1 S' hj s kn' hS ho Q fun H' s' => q _ H' s' (.bl _)) fun D H1 ys hD s hd h => ?_
  refine done D H1 s ?_
  have e : (((List.range n).filter fun _ => true).map fun j => PyData.bool (f j)) = ((List.range n).map f).map PyData.bool := by
    rw [List.map_map, List.filter_eq_self.mpr (fun _ _ => rfl)]; rfl
  rw [← e]; exact h
section
variable {P : Program} {w : World} {K : PySem.W.Frag} {mg : Str → Option Value} {base : Heap} {a : Nat → Addr} {fd : Nat → FuncData} {C : Addr} {tk : Nat → Tok}
end
end K31

set_option maxRecDepth 100000
set_option maxHeartbeats 4000000
namespace K31
open PySem PySem.Spec PyProof.Rows L2 Kh
/-! data that can be compared -/
structure Shd (d : PyData) : Prop where
  can : d.canLay0 = true
  dep : d.depth ≤ 50
theorem can_all : ∀ {ds : List PyData}, (∀ d ∈ ds, d.canLay0 = true) → PyData.canLayAll0 ds = true
  | [], _ => by simp [PyData.canLayAll0]
  | d :: ds, h => by rw [PyData.canLayAll0, h d List.mem_cons_self, can_all fun e he => h e (List.mem_cons_of_mem _ he)]; rfl
theorem dep_all {n : Nat} : ∀ {ds : List PyData}, (∀ d ∈ ds, d.depth ≤ n) → PyData.depthAll ds ≤ n
  | [], _ => by simp [PyData.depthAll]
  | d :: ds, h => by rw [PyData.depthAll]; exact Nat.max_le.mpr ⟨h d List.mem_cons_self, dep_all fun e he => h e (List.mem_cons_of_mem _ he)⟩
theorem shaped_list {ds : List PyData} (h : ∀ d ∈ ds, Shd d) : SeqAt.shaped (.list ds) = true := by
  unfold SeqAt.shaped
  have h1 : (PyData.list ds).canLay0 = true := by rw [PyData.canLay0]; exact can_all fun d hd => (h d hd).can
  have h2 : (PyData.list ds).depth ≤ 64 := by rw [PyData.depth]; have := dep_all fun d hd => (h d hd).dep; omega
  rw [h1, decide_eq_true h2]; rfl
theorem shd_shaped {d : PyData} (h : Shd d) : SeqAt.shaped d = true := by
  unfold SeqAt.shaped
  rw [h.can, decide_eq_true (show d.depth ≤ 64 by have := h.dep; omega)]; rfl
theorem shd_int (i : Int) : Shd (.int i) := ⟨by simp [PyData.canLay0], by simp [PyData.depth]⟩
theorem eqv_nilD (ds : List PyData) : PyData.eqv (.list ds) (.list []) = ds.isEmpty := by
  rw [PyData.eqv]
  cases ds with
  | nil => rw [PyData.eqvAll]; rfl
  | cons m ms => rw [PyData.eqvAll]; rfl
theorem zip_dp {K : PySem.W.Frag} {H : Hp} {xs : List V} {ds : List PyData} (d1 : DpAll K H xs ds) : ∀ cs : List (V × PyData), (∀ b ∈ cs, b ∈ xs.zip ds) → DpAll K H (cs.map Prod.fst) (cs.map Prod.snd) := by
  intro cs
  induction cs with
  | nil => intro _; exact .nil
  | cons c cs ih => intro h; exact .cons (zip_mem_dp d1 c (h c List.mem_cons_self)) (ih fun b hb => h b (List.mem_cons_of_mem _ hb))
theorem perm_at {α : Type} {x : α} : ∀ {l : List α} {k : Nat}, l[k]? = some x → (x :: l.eraseIdx k).Perm l
  | [], k, h => by simp at h
  | y :: l, 0, h => by
    simp at h; subst h
    rw [List.eraseIdx_cons_zero]
  | y :: l, k + 1, h => by
    rw [List.eraseIdx_cons_succ]
    exact (List.Perm.swap y x _).trans ((perm_at (l := l) (k := k) (by simpa using h)).cons y)
theorem erase_map {α β : Type} (f : α → β) : ∀ (l : List α) (k : Nat), (l.map f).eraseIdx k = (l.eraseIdx k).map f
  | [], k => by simp
  | y :: l, 0 => by simp
  | y :: l, k + 1 => by simp [erase_map f l k]
section
variable {P : Program} {w : World} {K : PySem.W.Frag} {mg : Str → Option Value} {base : Heap} {a : Nat → Addr} {fd : Nat → FuncData} {C : Addr} {tk : Nat → Tok}
/-- the given things, in some order -/
def spMixed (K : PySem.W.Frag) : Sp := fun vs H Q _ => ∃ (S : Addr → Prop) (p : Addr) (v : V) (ds : List PyData), vs = [.ref p, v] ∧ Kn S H ∧ S p ∧ PotAt H p ∧ Dp K (off S H) v (.list ds) ∧ (∀ d ∈ ds, Shd d) ∧ ds.length ≤ 100 ∧
  ∀ u H' es, SameBut p H H' → PotAt H' p → es.Perm ds → Dp K (off S H') u (.list es) → Q u H'
theorem ok__law_mixed (T : Txt K mg a fd C tk) : FnOk P w K mg base CX0 2 (a 29) (fd 29) ["_law_pot_here", "_law_some"] (spMixed K) := by
  have G__law_draw := ok__law_draw (P := P) (w := w) (base := base) T
  refine T.F__law_mixed.ok sc__law_mixed (fun vs H Q E h => by obtain ⟨_, _, _, _, rfl, _⟩ := h; rfl) (fun cdv A outer s H vs Q E hr h => ?_)
  obtain ⟨S, p, v, ds, rfl, kn, hS, hp, hd, shd, few, q⟩ := h
  refine ⟨_, (pss_cons (ps_par (i := 2) (j := 3) (by rfl) sc__law_mixed.nd rfl rfl (by decide) rfl rfl (pa_cons (pe_callTy (k_list (K := K)) (by rfl) T.z_list (by decide +kernel) (pa_cons (pv 1) pa_nil)) (pa_cons (pe_lst pa_nil) pa_nil)) (by rfl))
      (pss_cons (ps_while PassesOwn.never (pt_cmpR (k_neD (K := K) hr.units) (pv 2) (pe_lst pa_nil) (nomark _))
        (pss_one (ps_expr (pe_bm PySem.F.plainAttrs_list PySem.F.slot_list_append PySem.F.type_list_append mt_append (pv 3) (pa_cons (pe_bm PySem.F.plainAttrs_list PySem.F.slot_list_pop PySem.F.type_list_pop mt_popAt (pv 2) (pa_cons (pe_call G__law_draw (hr.mono (by omega)) (by rfl) T.m__law_draw T.F__law_draw.kp T.b__law_draw .nil pass0 (pa_cons (pv 0) (pa_cons (pe_callB (k_len (K := K)) (by rfl) T.z_len (by decide +kernel) (pa_cons (pv 2) pa_nil)) pa_nil))) pa_nil)) pa_nil)))))
      (pss_one (ps_ret (pv 3))))), ?_⟩
  refine s_seq (a_cons (t_cb1 (t_var rfl (list_d kn hd rfl fun L xs hL ha _ => a_cons (t_lst0 fun F hF => a_nil ⟨_, _, rfl, nx_of ?_⟩)))))
  have lz := dpa_len ha
  have e1 : (xs.zip ds).map Prod.fst = xs := List.map_fst_zip (by omega)
  have e2 : (xs.zip ds).map Prod.snd = ds := List.map_snd_zip (by omega)
  have sL := same_new (o := HO.lst xs) hL
  have sF := same_new (o := HO.lst []) hF
  have FL : L ≠ F := ne_of_none (upd_same (H := H)) hF
  have hF0 : H F = none := sL.free hF
  obtain ⟨x0, y0, hp0, _⟩ := id hp
  have pL : L ≠ p := fun e => by subst e; rw [hL] at hp0; cases hp0
  have pF : F ≠ p := fun e => by subst e; rw [hF0] at hp0; cases hp0
  have kb : ∀ {H' : Hp}, SameBut p H H' → PotAt H' p → Kn S H' := fun {H'} sb pt => kn_bt kn sb (by obtain ⟨_, _, h, _⟩ := pt; exact some_ne h)
  refine s_seq ⟨fun m σ H' => ∃ fs ls : List (V × PyData), σ = [some (.ref p), some v, some (.ref L), some (.ref F)] ∧ H' L = some (.lst (ls.map Prod.fst)) ∧ H' F = some (.lst (fs.map Prod.fst)) ∧ PotAt H' p ∧ SameBut p H H' ∧ (fs ++ ls).Perm (xs.zip ds) ∧ m = ls.length,
    ⟨_, [], xs.zip ds, rfl, by rw [upd_ne FL, e1]; exact upd_same, upd_same, ⟨x0, y0, by rw [upd_ne (Ne.symm pF), upd_ne (Ne.symm pL)]; exact hp0, by assumption⟩, sbut (sL.trans sF), List.Perm.refl _, rfl⟩, ?_⟩
  rintro m σ H' ⟨fs, ls, rfl, hL', hF', hp', sb, pm, rfl⟩
  have len := pm.length_eq
  rw [List.length_append, List.length_zip] at len
  have mem : ∀ z ∈ fs ++ ls, z ∈ xs.zip ds := fun z hz => pm.mem_iff.mp hz
  have dls := zip_dp ha ls fun z hz => mem z (List.mem_append_right _ hz)
  have dfs := zip_dp ha fs fun z hz => mem z (List.mem_append_left _ hz)
  have shl : ∀ d ∈ ls.map Prod.snd, Shd d := fun d hd' => by
    obtain ⟨z, hz, rfl⟩ := List.mem_map.mp hd'
    have := mem z (List.mem_append_right _ hz)
    refine shd _ ?_
    rw [← e2]; exact List.mem_map_of_mem this
  refine b_test (t_op (t_var rfl (t_lst0 fun E0 hE => ?_)))
  have sE := same_new (o := HO.lst []) hE
  have sb1 : SameBut p H (upd H' E0 (.lst [])) := fun b o n h => sE _ _ (sb b o n h)
  refine ⟨.list (ls.map Prod.snd), .list [], .lst (sqL (sE _ _ hL')) (dpa_same ((off_bt hS sb1).trans off_sub) _ _ dls), .lst (sqL upd_same) .nil, shaped_list shl, (by decide), ?_⟩
  have hp1 : PotAt (upd H' E0 (.lst [])) p := by obtain ⟨x, y, h, hy⟩ := hp'; exact ⟨x, y, sE _ _ h, hy⟩
  have hL1 := sE _ _ hL'
  have hF1 := sE _ _ hF'
  generalize upd H' E0 (.lst []) = H1 at *
  rw [eqv_nilD]
  cases ls with
  | nil =>
    refine ⟨_, rfl, ifF rfl (nx_of (s_ret (t_var rfl (q _ H1 (fs.map Prod.snd) sb1 hp1 ?_ (dp_lst ?_ hF1 (dpa_same (off_bt hS sb1) _ _ dfs))))))⟩
    · rw [List.append_nil] at pm
      have := pm.map Prod.snd
      rwa [e2] at this
    · exact kn.new hF0
  | cons z0 lr =>
    refine ⟨_, rfl, ifT rfl ⟨fun σ' H'' => ∃ fs ls : List (V × PyData), σ' = [some (.ref p), some v, some (.ref L), some (.ref F)] ∧ H'' L = some (.lst (ls.map Prod.fst)) ∧ H'' F = some (.lst (fs.map Prod.fst)) ∧ PotAt H'' p ∧ SameBut p H H'' ∧ (fs ++ ls).Perm (xs.zip ds) ∧ ls.length < (z0 :: lr).length, ?_, ?_⟩⟩
    · rintro σ' H'' ⟨fs', ls', h1, h2, h3, h4, h5, h6, h7⟩
      exact ⟨_, h7, fs', ls', h1, h2, h3, h4, h5, h6, rfl⟩
    · refine s_drop (t_bm (t_var rfl ⟨.inl ⟨rfl, _, sqL hF1⟩, a_cons (t_bm (t_var rfl ⟨.inl ⟨rfl, _, sqL hL1⟩, a_cons (t_call2 (t_var rfl (t_cb1 (t_var rfl ⟨L, _, rfl, .inl (sqL hL1), p, (z0 :: lr).length, ?_, hp1, by simp, by omega, fun d H2 hd sb2 hp2 => ?_⟩))))⟩))⟩))
      · rw [List.length_map]
      · have hL2 := sb2 _ _ pL hL1
        have hF2 := sb2 _ _ pF hF1
        obtain ⟨x, hx⟩ : ∃ x, (z0 :: lr)[d]? = some x := ⟨_, List.getElem?_eq_getElem hd⟩
        refine a_nil ⟨L, _, (d : Nat), d, x.1, rfl, rfl, hL2, by omega, by omega, ?_, ?_, a_nil ⟨F, _, _, rfl, rfl, by rw [upd_ne (Ne.symm FL)]; exact hF2, Nat.lt_of_le_of_lt (show (fs.map Prod.fst).length ≤ 100000 by rw [List.length_map]; omega) (by decide), ?_⟩⟩
        · refine (ixN_seq ?_).1
          unfold ixN
          rw [List.length_map, if_pos (by omega), if_pos (by omega), Int.toNat_natCast]
        · rw [List.getElem?_map, hx]; rfl
        · refine ⟨fs ++ [x], (z0 :: lr).eraseIdx d, rfl, ?_, ?_, ?_, ?_, ?_, ?_⟩
          · rw [upd_ne FL, upd_same, erase_map]
          · rw [upd_same, List.map_append]; rfl
          · obtain ⟨x2, y2, h2, hy2⟩ := hp2
            exact ⟨x2, y2, by rw [upd_ne (Ne.symm pF), upd_ne (Ne.symm pL)]; exact h2, hy2⟩
          · intro b o n h
            rw [upd_ne (ne_of_none h hF0), upd_ne (ne_of_none h hL)]
            exact sb2 b o n (sb1 b o n h)
          · rw [List.append_assoc]
            exact ((perm_at hx).append_left fs).trans pm
          · rw [List.length_eraseIdx, if_pos hd]; simp
end
end K31

set_option maxRecDepth 100000
set_option maxHeartbeats 4000000
namespace K31
open PySem PySem.Spec PyProof.Rows L2 Kh
structure TxC (K : PySem.W.Frag) (mg : Str → Option Value) (a : Nat → Addr) (C : Addr) : Prop where
  cls : Cls K C
  n_rows : NoAttr K C "_rows"
  M_Table : Mk K C (a 5)
  m_Table : mg "Table" = some (.ref C)
  me_rows : Meth K C "rows" (a 6)
  me_at : Meth K C "at" (a 7)
  me_len : Meth K C "__len__" (a 8)
  me_eq : Meth K C "__eq__" (a 9)
structure TxD (K : PySem.W.Frag) (C : Addr) : Prop where
  ha : PySem.W.findIn K (.ref C) "__class__" = some (some (.builtin "object.__class__"))
  hn : PySem.W.specialIn K (.builtin "object.__class__") "__get__" = some (some (.builtin "getset_descriptor.__get__"))
  htk : PySem.W.takesIn K (.builtin "object.__class__") = some true
  hm : PySem.W.mroIn K C (.type "object") = some true
  own : PySem.W.kitOne K (.ref C) (.ref C) = some true
/-- a right table -/
structure Tb (R : List (List Nat)) : Prop where
  pos : 1 ≤ R.length
  few : R.length ≤ 7
  row : ∀ r ∈ R, r.length = R.length
  num : ∀ r ∈ R, ∀ n ∈ r, n < R.length
def at_ (R : List (List Nat)) (i j : Nat) : Nat := (R.getD i []).getD j 0
def nLL (R : List (List Nat)) : PyData := .list (R.map nL)
def nT (r : List Nat) : PyData := .tuple (r.map nD)
def tT (R : List (List Nat)) : PyData := .tuple (R.map nT)
theorem Tb.get {R : List (List Nat)} (h : Tb R) {i : Nat} (hi : i < R.length) : R[i]? = some (R.getD i []) ∧ R.getD i [] ∈ R := by
  have e : R[i]? = some R[i] := List.getElem?_eq_getElem hi
  have e2 : R.getD i [] = R[i] := by rw [List.getD_eq_getElem?_getD, e]; rfl
  rw [e2]; exact ⟨e, List.getElem_mem hi⟩
theorem Tb.at_get {R : List (List Nat)} (h : Tb R) {i j : Nat} (hi : i < R.length) (hj : j < R.length) : (R.getD i [])[j]? = some (at_ R i j) ∧ at_ R i j < R.length := by
  have hr := (h.get hi).2
  have hl := h.row _ hr
  have e : (R.getD i [])[j]? = some (R.getD i [])[j] := List.getElem?_eq_getElem (by omega)
  have e2 : at_ R i j = (R.getD i [])[j] := by unfold at_; rw [List.getD_eq_getElem?_getD, e]; rfl
  rw [e2]
  exact ⟨e, h.num _ hr _ (List.getElem_mem _)⟩
theorem row_get {R : List (List Nat)} (h : Tb R) {i : Nat} (f : List Nat → PyData) (hi : i < R.length) : (R.map f)[i]? = some (f (R.getD i [])) := by
  rw [List.getElem?_map, (h.get hi).1]; rfl
theorem num_get {R : List (List Nat)} (h : Tb R) {i j : Nat} (hi : i < R.length) (hj : j < R.length) : ((R.getD i []).map nD)[j]? = some (nD (at_ R i j)) := by
  rw [List.getElem?_map, (h.at_get hi hj).1]; rfl
theorem shd_nums {r : List Nat} : (∀ d ∈ r.map nD, Shd d) := fun d hd => by
  obtain ⟨n, _, rfl⟩ := List.mem_map.mp hd
  exact shd_int _
theorem shd_nT (r : List Nat) : Shd (nT r) := by
  refine ⟨?_, ?_⟩
  · unfold nT; rw [PyData.canLay0]; exact can_all fun d hd => (shd_nums d hd).can
  · unfold nT; rw [PyData.depth]
    have := dep_all (n := 0) (ds := r.map nD) fun d hd => by
      obtain ⟨n, _, rfl⟩ := List.mem_map.mp hd
      simp [nD, PyData.depth]
    omega
theorem shd_nL (r : List Nat) : Shd (nL r) := by
  refine ⟨?_, ?_⟩
  · unfold nL; rw [PyData.canLay0]; exact can_all fun d hd => (shd_nums d hd).can
  · unfold nL; rw [PyData.depth]
    have := dep_all (n := 0) (ds := r.map nD) fun d hd => by
      obtain ⟨n, _, rfl⟩ := List.mem_map.mp hd
      simp [nD, PyData.depth]
    omega
theorem shaped_tT (R : List (List Nat)) : SeqAt.shaped (tT R) = true := by
  unfold SeqAt.shaped tT
  have h1 : (PyData.tuple (R.map nT)).canLay0 = true := by
    rw [PyData.canLay0]; exact can_all fun d hd => by obtain ⟨r, _, rfl⟩ := List.mem_map.mp hd; exact (shd_nT r).can
  have h2 : (PyData.tuple (R.map nT)).depth ≤ 64 := by
    rw [PyData.depth]
    have := dep_all (n := 50) (ds := R.map nT) fun d hd => by obtain ⟨r, _, rfl⟩ := List.mem_map.mp hd; exact (shd_nT r).dep
    omega
  rw [h1, decide_eq_true h2]; rfl
theorem eqv_numsT : ∀ r : List Nat, PyData.eqvAll (r.map nD) (r.map nD) = true
  | [] => by rw [List.map_nil, PyData.eqvAll]
  | n :: r => by
    rw [List.map_cons, PyData.eqvAll, eqv_numsT r]
    unfold nD
    rw [PyData.eqv]; simp
theorem eqv_tT (R : List (List Nat)) : PyData.eqv (tT R) (tT R) = true := by
  unfold tT
  rw [PyData.eqv]
  induction R with
  | nil => rw [List.map_nil, PyData.eqvAll]
  | cons r R ih =>
    rw [List.map_cons, PyData.eqvAll, ih]
    unfold nT
    rw [PyData.eqv, eqv_numsT]; rfl
/-- at x stands the object of a table -/
def TabAt (K : PySem.W.Frag) (C : Addr) (H : Hp) (R : List (List Nat)) (x : Addr) : Prop := ∃ dx v, H x = some (.ins C dx [("_rows", v)]) ∧ Dp K H v (tT R)
theorem TabAt.same {K : PySem.W.Frag} {C : Addr} {H H' : Hp} {R : List (List Nat)} {x : Addr} (h : TabAt K C H R x) (e : Same H H') : TabAt K C H' R x := by
  obtain ⟨dx, v, h0, h1⟩ := h
  exact ⟨dx, v, e _ _ h0, dp_same e _ _ h1⟩
theorem tab_isI {K : PySem.W.Frag} {C : Addr} {H : Hp} {S : Addr → Prop} {R : List (List Nat)} {x : Addr} (h : TabAt K C (off S H) R x) : isI H C (.ref x) := by
  obtain ⟨dx, v, h0, _⟩ := h
  exact ⟨x, dx, _, rfl, (off_some h0).2⟩
section
variable {P : Program} {w : World} {K : PySem.W.Frag} {mg : Str → Option Value} {base : Heap} {a : Nat → Addr} {fd : Nat → FuncData} {C : Addr} {tk : Nat → Tok}
def eRow (x : List Nat × Nat) : List PyData := [nL x.1, nD x.2]
abbrev spRow (K : PySem.W.Frag) : Sp := spP K eRow (fun x => x.1.length = x.2 ∧ x.2 ≤ 7 ∧ ∀ n ∈ x.1, n < x.2) fun _ => .bool true
theorem ok_is_row (T : Txt K mg a fd C tk) : FnOk P w K mg base CX0 4 (a 4) (fd 4) ["value", "size"] (spRow K) := by
  have G_is_list : FnOk P w K mg base CX0 1 (a 2) (fd 2) ["value"] (spIsList K) := ok_is_list T
  have G_is_number_below : FnOk P w K mg base CX0 3 (a 3) (fd 3) ["value", "many"] (spBelow K) := ok_is_number_below T
  refine T.F_is_row.ok sc_is_row (fun vs H Q E h => spP_len (fun _ => rfl) h) (fun cdv A outer s H vs Q E hr h => ?_)
  obtain ⟨S, ⟨r, n⟩, kn, hd, ⟨hl, h7, hn⟩, q⟩ := h
  replace hl : r.length = n := hl
  replace h7 : n ≤ 7 := h7
  replace hn : ∀ m ∈ r, m < n := hn
  obtain - | ⟨h1, - | ⟨h2, ⟨⟩⟩⟩ := hd
  cases h2
  rename_i v
  replace h1 : Dp K (off S H) v (.list (r.map nD)) := h1
  refine ⟨_, (pss_one (ps_ret (pe_and (pe_call G_is_list (hr.mono (by omega)) (by rfl) T.m_is_list T.F_is_list.kp T.b_is_list .nil pass0 (pa_cons (pv 0) pa_nil)) (pe_and (pe_cmpR op_eq (pe_callB (k_len (K := K)) (by rfl) T.z_len (by decide +kernel) (pa_cons (pv 0) pa_nil)) (pv 1) (nomark _)) (pe_one (pe_callB (k_all (K := K) rfl) (by rfl) T.z_all (by decide +kernel) (pa_cons (pe_lc (own := [("part", 2)]) (g := gName 2) (tt := tYes) rfl sc_is_row.nd (k_pi (K := K) (pv 0)) (blkOk_by (own := [("part", 2)]) (N := is_row_N) (sc := defScope is_row_s) (by decide +kernel)) (fun _ _ _ _ _ => (pg_name (i := 2) sc_is_row.nd rfl (Or.inl rfl))) (fun _ _ _ _ _ => pts_nil) (fun _ _ _ _ _ => (pe_call G_is_number_below (hr.mono (by omega)) (by rfl) T.m_is_number_below T.F_is_number_below.kp T.b_is_number_below .nil pass0 (pa_cons (pv 2) (pa_cons (pv 1) pa_nil))))) pa_nil))))))), ?_⟩
  refine s_ret (t_andV (t_call1 (t_var rfl (spP_bl off_sub (nL r) (.cons h1 .nil) trivial rfl fun H1 s1 => bl_ifT ?_))))
  have kn1 := kn.same s1
  have d1 := dp_same (off_same s1) _ _ h1
  refine t_andV (t_op (t_cb1 (t_var rfl (len_d off_sub d1 rfl (t_var rfl ⟨rfl, ?_⟩)))))
  have e : decide (V.int (((r.map nD).length : Nat) : Int) = V.int ((n : Nat) : Int)) = true := decide_eq_true (by rw [List.length_map, hl])
  rw [e]
  refine bl_ifT (t_cb1 (lcM false r nD (fun _ => .bool true) kn1 (fun Q q => t_var rfl (q _ _ (Same.refl _) d1)) (by omega) (fun _ => rfl) (fun m hm x H2 S2 s2 kn2 dx hS ho Q q => ?_) fun D H2 ys hD s2 hd2 h2 => ?_))
  · cases dx
    refine t_call2 (t_var rfl (t_var rfl ⟨S2, (nD m, (n : Nat)), kn2, .cons (.int _) (.cons (.int _) .nil), trivial, fun v H' s' h => q v H' s' ?_⟩))
    have : belowD ((n : Nat) : Int) (nD m) = true := by
      show (decide (0 ≤ ((m : Nat) : Int)) && decide (((m : Nat) : Int) < (n : Nat))) = true
      have := hn m hm
      rw [decide_eq_true (by omega), decide_eq_true (by omega)]; rfl
    replace h : Dp K (off S2 H') v (.bool (belowD ((n : Nat) : Int) (nD m))) := h
    rw [this] at h; exact h
  · refine all_d (bs := r.map fun _ => true) off_sub (by rw [List.map_map]; exact h2) ?_
    have e : (r.map fun _ => true).all id = true := List.all_eq_true.mpr fun b hb => by
      obtain ⟨_, _, rfl⟩ := List.mem_map.mp hb; rfl
    rw [e]; exact q _ _ (s1.trans s2) (.bl true)
def spInit (K : PySem.W.Frag) (C : Addr) : Sp := fun vs H Q _ => ∃ (S : Addr → Prop) (x : Addr) (dx : Addr) (v : V) (R : List (List Nat)), vs = [.ref x, v] ∧ Kn S H ∧ S x ∧ H x = some (.ins C dx []) ∧ Dp K (off S H) v (nLL R) ∧ Tb R ∧
  ∀ H' v1, SameBut x H H' → H' x = some (.ins C dx [("_rows", v1)]) → Dp K (off S H') v1 (tT R) → Q .non H'
theorem ok_Table_init (T : Txt K mg a fd C tk) (U : TxC K mg a C) : FnOk P w K mg base CX0 8 (a 5) (fd 5) ["self", "rows"] (spInit K C) := by
  have G_is_list : FnOk P w K mg base CX0 1 (a 2) (fd 2) ["value"] (spIsList K) := ok_is_list T
  have G_is_row := ok_is_row (P := P) (w := w) (base := base) T
  refine T.F_Table_init.ok sc_Table_init (fun vs H Q E h => by obtain ⟨_, _, _, _, _, rfl, _⟩ := h; rfl) (fun cdv A outer s H vs Q E hr h => ?_)
  obtain ⟨S, x, dx, v, R, rfl, kn, hS, hx, hd, tb, q⟩ := h
  replace hd : Dp K (off S H) v (.list (R.map nL)) := hd
  have p1 := tb.pos
  have p7 := tb.few
  refine ⟨_, (pss_cons (ps_if (PW.pt (pw_or (pt_not (pt_val (pe_call G_is_list (hr.mono (by omega)) (by rfl) T.m_is_list T.F_is_list.kp T.b_is_list .nil pass0 (pa_cons (pv 1) pa_nil)))) (pw_or1 (pt_not (pt_chain op_le op_le pe_int (pe_callB (k_len (K := K)) (by rfl) T.z_len (by decide +kernel) (pa_cons (pv 1) pa_nil)) (pe_glob (v := .int 7) (by rfl) T.m_MOST_VALUES ⟨_, rfl⟩))))))
        (pss_one ps_never) pss_nil)
      (pss_cons (ps_for PassesOwn.never rfl (pi_enum (by rfl) T.z_enumerate (pa_cons (pv 1) pa_nil)) (pg_tup rfl (pgs_cons (pg_name (i := 2) sc_Table_init.nd rfl (Or.inl rfl)) (pgs_cons (pg_name (i := 3) sc_Table_init.nd rfl (Or.inl rfl)) pgs_nil)))
        (pss_one (ps_if (pt_not (pt_val (pe_call G_is_row (hr.mono (by omega)) (by rfl) T.m_is_row T.F_is_row.kp T.b_is_row .nil pass0 (pa_cons (pv 3) (pa_cons (pe_callB (k_len (K := K)) (by rfl) T.z_len (by decide +kernel) (pa_cons (pv 1) pa_nil)) pa_nil)))))
          (pss_one ps_never) pss_nil)))
      (pss_one (ps_fld (pv 0) (pe_callTy (k_tup (K := K)) (by rfl) T.z_tuple (by decide +kernel) (pa_cons (pe_lc (own := [("row", 3)]) (g := gName 3) (tt := tYes) rfl sc_Table_init.nd (k_pi (K := K) (pv 1)) (blkOk_by (own := [("row", 3)]) (N := Table_init_N) (sc := defScope Table_init_s) (by decide +kernel)) (fun _ _ _ _ _ => (pg_name (i := 3) sc_Table_init.nd rfl (Or.inl rfl))) (fun _ _ _ _ _ => pts_nil) (fun _ _ _ _ _ => (pe_callTy (k_tup (K := K)) (by rfl) T.z_tuple (by decide +kernel) (pa_cons (pv 3) pa_nil)))) pa_nil)) rfl)))), ?_⟩
  refine s_seq (s_if (b_or (b_not (b_val (t_call1 (t_var rfl (spP_bl off_sub (nLL R) (.cons hd .nil) trivial rfl fun H1 s1 => ⟨_, rfl, ifF rfl ?_⟩)))))))
  have kn1 := kn.same s1
  have hd1 := dp_same (off_same s1) _ _ hd
  refine b_not (b_test (t_c (t_cb1 (t_var rfl (len_d off_sub hd1 rfl ⟨_, _, rfl, rfl, ?_⟩)))))
  have e1 : (1 : Int) ≤ ((R.map nL).length : Nat) := by rw [List.length_map]; omega
  refine bl_if (fun _ => ?_) (fun c => absurd e1 (of_decide_eq_false c))
  refine t_c ⟨_, _, rfl, rfl, ⟨_, rfl, ifF ?_ (s_next ?_)⟩⟩
  · rw [decide_eq_true (show (((R.map nL).length : Nat) : Int) ≤ 7 by rw [List.length_map]; omega)]; rfl
  obtain ⟨l, xs, rfl, hs, ha⟩ := list_at hd1
  have lx := dpa_len ha
  rw [List.length_map] at lx
  refine s_seq (s_enum (iv := 1) (a := l) (xs := xs) (s1 := 2) (s2 := 3) rfl (off_sub.seq hs) (fun i σ' H' => ∃ x2 x3 : Option V, σ' = [some (.ref x), some (.ref l), x2, x3] ∧ Same H1 H') ⟨_, _, rfl, Same.refl _⟩ (fun i σ' H' ⟨_, _, _, z⟩ => (off_sub.trans z).seq hs) (fun i y σ' H2 H3 hi xi ⟨x2, x3, e, z2⟩ z3 => ?_) fun σ' H2 ⟨x2, x3, e, z2⟩ => ?_)
  · subst e
    have z := z2.trans z3
    obtain ⟨d, dj, dy⟩ := dpa_at ha xi
    obtain ⟨r, rj, rm, rfl⟩ := at_map dj
    have hd3 := dp_same (off_same z) _ _ hd1
    refine s_if (b_not (b_val (t_call2 (t_var rfl (t_cb1 (t_var rfl (len_d off_sub hd3 rfl ⟨S, (r, R.length), kn1.same z, .cons (dp_same (off_same z) _ _ dy) (.cons (dp_int (by rw [List.length_map])) .nil), ⟨tb.row r rm, p7, tb.num r rm⟩, fun b H4 s4 db => ?_⟩)))))))
    replace db : Dp K (off S H4) b (.bool true) := db
    cases db
    exact ⟨_, rfl, ifF rfl (s_next ⟨_, _, rfl, z.trans s4⟩)⟩
  · subst e
    have hd2 := dp_same (off_same z2) _ _ hd1
    have kn2 := kn1.same z2
    have z := s1.trans z2
    refine nx_of (s_fld (t_cb1 (lcM false R nL nT kn2 (fun Q q => t_var rfl (q _ _ (Same.refl _) hd2)) (by omega) (fun _ => rfl) (fun r hr y H3 S3 s3 kn3 dy hS3 ho Q q => t_cb1 (t_var rfl (tup_d kn3 dy rfl fun u H4 s4 d4 => q u H4 s4 d4))) fun D H3 ys hD s3 hd3 h3 => ?_)))
    refine tup_d (kn2.same s3) h3 rfl fun v1 H4 s4 d4 => ?_
    have hx4 := s4 _ _ (s3 _ _ (z _ _ hx))
    refine t_var rfl ⟨x, C, dx, [], rfl, hx4, U.cls, U.n_rows, by decide, ?_⟩
    have b2 : SameBut x H (upd H4 x (.ins C dx [("_rows", v1)])) := bmut (sbut (z.trans (s3.trans s4)))
    have d5 := dp_same (off_bt (H' := upd H4 x (.ins C dx [("_rows", v1)])) hS (bmut (sbut (Same.refl H4)))) _ _ d4
    exact nx_of (q _ v1 b2 upd_same d5)
/-- a method of a table whose answer is data -/
def spT {α : Type} (K : PySem.W.Frag) (C : Addr) (enc : α → List PyData) (pre : List (List Nat) → α → Prop) (f : List (List Nat) → α → PyData) : Sp := fun vs H Q _ => ∃ (S : Addr → Prop) (R : List (List Nat)) (x : Addr) (y : α) (us : List V), vs = .ref x :: us ∧ Kn S H ∧ TabAt K C (off S H) R x ∧ Tb R ∧ DpAll K (off S H) us (enc y) ∧ pre R y ∧
  ∀ v H', Same H H' → Dp K (off S H') v (f R y) → Q v H'
abbrev spT0 (K : PySem.W.Frag) (C : Addr) (f : List (List Nat) → PyData) : Sp := spT K C (fun _ : Unit => []) (fun _ _ => True) (fun R _ => f R)
theorem spT_len {α : Type} {enc : α → List PyData} {pre : List (List Nat) → α → Prop} {f : List (List Nat) → α → PyData} {n : Nat} (hn : ∀ x, (enc x).length = n) {vs : List V} {H : Hp} {Q : VK} {E : XK} (h : spT K C enc pre f vs H Q E) : vs.length = n + 1 := by
  obtain ⟨S, R, x, y, us, rfl, _, _, _, hd, _⟩ := h
  rw [List.length_cons, dpa_len hd, hn]
theorem mk_table {S : Addr → Prop} {σ : L2.St} {H : Hp} {ta : TE} {Q : VK} (R : List (List Nat)) (tb : Tb R) (kn : Kn S H)
    (hev : ∀ Q : VK, (∀ u H1, Same H H1 → Dp K (off S H1) u (nLL R) → Q u H1) → ta σ H Q)
    (q : ∀ x H', Same H H' → TabAt K C (off S H') R x → Q (.ref x) H') : tMake C (spInit K C) [] E0 (tCons ta tNil) σ H Q := by
  refine t_make1 (hev _ fun u H1 s1 du x dx hx hdx ne => ?_)
  have kn1 := kn.same s1
  have sm : Same H1 (upd (upd H1 dx (.own x)) x (.ins C dx [])) := fun b u e => by
    rw [upd_ne (ne_of_none e hx), upd_ne (ne_of_none e hdx)]; exact e
  have hup : (upd (upd H1 dx (.own x)) x (.ins C dx [])) x = some (.ins C dx []) := upd_same
  refine ⟨plus S x, x, dx, u, R, rfl, (kn1.same sm).plus (some_ne hup), .inr rfl, hup, dp_same ?_ _ _ du, tb, fun H' v1 sb hx' d1 => ⟨rfl, q x H' ?_ ⟨dx, v1, ?_, dp_same off_fin _ _ d1⟩⟩⟩
  · exact off_plus hx sm
  · intro b o h
    exact sb b o (ne_of_none (s1 b o h) hx) (sm b o (s1 b o h))
  · rw [off_out (kn1.new hx)]; exact hx'
theorem fld_rows {S : Addr → Prop} {σ : L2.St} {H : Hp} {R : List (List Nat)} {x : Addr} {i : Nat} {Q : VK} (U : TxC K mg a C) (h : TabAt K C (off S H) R x) (hi : σ[i]? = some (some (.ref x))) (q : ∀ v, Dp K (off S H) v (tT R) → Q v H) : tFld K (tVar i) "_rows" σ H Q := by
  obtain ⟨dx, v, hx, d⟩ := h
  exact t_fld (t_var hi ⟨x, C, dx, _, v, rfl, (off_some hx).2, U.cls, U.n_rows, rfl, q v d⟩)
theorem ok_Table_len (T : Txt K mg a fd C tk) (U : TxC K mg a C) : FnOk P w K mg base CX0 1 (a 8) (fd 8) ["self"] (spT0 K C fun R => nD R.length) := by
  refine T.F_Table_len.ok sc_Table_len (fun vs H Q E h => spT_len (fun _ => rfl) h) (fun cdv A outer s H vs Q E hr h => ?_)
  obtain ⟨S, R, x, y, us, rfl, kn, ht, tb, ⟨⟩, -, q⟩ := h
  refine ⟨_, (pss_one (ps_ret (pe_callB (k_len (K := K)) (by rfl) T.z_len (by decide +kernel) (pa_cons (k_fld (K := K) (pv 0) rfl) pa_nil)))), ?_⟩
  exact s_ret (t_cb1 (fld_rows U ht rfl fun v d => len_d off_sub d rfl (q _ _ (Same.refl _) (dp_int (by rw [List.length_map])))))
/-- len(table) -/
theorem len_tab {S : Addr → Prop} {H : Hp} {R : List (List Nat)} {x : Addr} {Q : VK} (kn : Kn S H) (ht : TabAt K C (off S H) R x) (tb : Tb R) (q : ∀ H', Same H H' → Q (.int (R.length : Nat)) H') : rLenI C (spT0 K C fun R => nD R.length) [.ref x] H Q := by
  refine ⟨.ref x, rfl, tab_isI ht, S, R, x, (), [], rfl, kn, ht, tb, .nil, trivial, fun v H' s d => ?_⟩
  replace d : Dp K (off S H') v (nD R.length) := d
  cases d
  exact ⟨R.length, rfl, Nat.lt_of_le_of_lt tb.few (by decide), q H' s⟩
theorem ok_Table_rows (T : Txt K mg a fd C tk) (U : TxC K mg a C) : FnOk P w K mg base CX0 1 (a 6) (fd 6) ["self"] (spT0 K C nLL) := by
  refine T.F_Table_rows.ok sc_Table_rows (fun vs H Q E h => spT_len (fun _ => rfl) h) (fun cdv A outer s H vs Q E hr h => ?_)
  obtain ⟨S, R, x, y, us, rfl, kn, ht, tb, ⟨⟩, -, q⟩ := h
  have p7 := tb.few
  refine ⟨_, (pss_one (ps_ret (pe_lc (own := [("row", 1)]) (g := gName 1) (tt := tYes) rfl sc_Table_rows.nd (k_pi (K := K) (k_fld (K := K) (pv 0) rfl)) (blkOk_by (own := [("row", 1)]) (N := Table_rows_N) (sc := defScope Table_rows_s) (by decide +kernel)) (fun _ _ _ _ _ => (pg_name (i := 1) sc_Table_rows.nd rfl (Or.inl rfl))) (fun _ _ _ _ _ => pts_nil) (fun _ _ _ _ _ => (pe_callTy (k_list (K := K)) (by rfl) T.z_list (by decide +kernel) (pa_cons (pv 1) pa_nil)))))), ?_⟩
  exact s_ret (lcM true R nT nL kn (fun Q q => fld_rows U ht rfl fun v d => q v _ (Same.refl _) d) (by omega) (fun _ => rfl) (fun r hr y H1 S1 s1 kn1 dy hS ho Q q => t_cb1 (t_var rfl (list_d kn1 dy rfl fun l xs hl ha h => q _ _ (same_new hl) h))) fun D H1 ys hD s1 hd1 h1 => q _ _ s1 h1)
def spCheck (K : PySem.W.Frag) (C : Addr) : Sp := fun vs H Q _ => ∃ (S : Addr → Prop) (R : List (List Nat)) (x : Addr) (n : Nat), vs = [.ref x, .int (n : Nat)] ∧ Kn S H ∧ TabAt K C (off S H) R x ∧ Tb R ∧ n < R.length ∧ ∀ H', Same H H' → Q .non H'
theorem below_ok {n m : Nat} (h : n < m) : belowD ((m : Nat) : Int) (nD n) = true := by
  show (decide (0 ≤ ((n : Nat) : Int)) && decide (((n : Nat) : Int) < (m : Nat))) = true
  rw [decide_eq_true (by omega), decide_eq_true (by omega)]; rfl
theorem ok_check_value (T : Txt K mg a fd C tk) (U : TxC K mg a C) : FnOk P w K mg base CX0 4 (a 10) (fd 10) ["table", "value"] (spCheck K C) := by
  have G_is_number_below : FnOk P w K mg base CX0 3 (a 3) (fd 3) ["value", "many"] (spBelow K) := ok_is_number_below T
  have G_Table_len := ok_Table_len (P := P) (w := w) (base := base) T U
  refine T.F_check_value.ok sc_check_value (fun vs H Q E h => by obtain ⟨_, _, _, _, rfl, _⟩ := h; rfl) (fun cdv A outer s H vs Q E hr h => ?_)
  obtain ⟨S, R, x, n, rfl, kn, ht, tb, hn, q⟩ := h
  refine ⟨_, (pss_one (ps_if (pt_not (pt_val (pe_call G_is_number_below (hr.mono (by omega)) (by rfl) T.m_is_number_below T.F_is_number_below.kp T.b_is_number_below .nil pass0 (pa_cons (pv 1) (pa_cons (pe_callB (call_lenI (runsOk G_Table_len T.b_Table_len) (hr.mono (by omega)) U.me_len) (by rfl) T.z_len (by decide +kernel) (pa_cons (pv 0) pa_nil)) pa_nil)))))
        (pss_one ps_never) pss_nil)), ?_⟩
  refine s_if (b_not (b_val (t_call2 (t_var rfl (t_cb1 (t_var rfl (len_tab kn ht tb fun H1 s1 => ⟨S, (nD n, (R.length : Nat)), kn.same s1, .cons (.int _) (.cons (.int _) .nil), trivial, fun b H2 s2 db => ?_⟩)))))))
  replace db : Dp K (off S H2) b (.bool (belowD ((R.length : Nat) : Int) (nD n))) := db
  rw [below_ok hn] at db
  cases db
  exact ⟨_, rfl, ifF rfl (s_next (q _ (s1.trans s2)))⟩
def e2n (x : Nat × Nat) : List PyData := [nD x.1, nD x.2]
theorem ok_Table_at (T : Txt K mg a fd C tk) (U : TxC K mg a C) : FnOk P w K mg base CX0 5 (a 7) (fd 7) ["self", "x", "y"] (spT K C e2n (fun R x => x.1 < R.length ∧ x.2 < R.length) fun R x => nD (at_ R x.1 x.2)) := by
  have G_check_value := ok_check_value (P := P) (w := w) (base := base) T U
  refine T.F_Table_at.ok sc_Table_at (fun vs H Q E h => spT_len (n := 2) (fun _ => rfl) h) (fun cdv A outer s H vs Q E hr h => ?_)
  obtain ⟨S, R, x, ⟨i, j⟩, us, rfl, kn, ht, tb, hd, ⟨hi, hj⟩, q⟩ := h
  obtain - | ⟨h1, - | ⟨h2, ⟨⟩⟩⟩ := hd
  cases h1
  cases h2
  replace hi : i < R.length := hi
  replace hj : j < R.length := hj
  refine ⟨_, (pss_cons (ps_expr (pe_call G_check_value (hr.mono (by omega)) (by rfl) T.m_check_value T.F_check_value.kp T.b_check_value .nil pass0 (pa_cons (pv 0) (pa_cons (pv 1) pa_nil))))
      (pss_cons (ps_expr (pe_call G_check_value (hr.mono (by omega)) (by rfl) T.m_check_value T.F_check_value.kp T.b_check_value .nil pass0 (pa_cons (pv 0) (pa_cons (pv 2) pa_nil))))
      (pss_one (ps_ret (pe_ix (k_ix (K := K)) (pe_ix (k_ix (K := K)) (k_fld (K := K) (pv 0) rfl) (pv 1) (fun _ _ => rfl)) (pv 2) (fun _ _ => rfl)))))), ?_⟩
  refine s_seq (s_drop (t_call2 (t_var rfl (t_var rfl ⟨S, R, x, i, rfl, kn, ht, tb, hi, fun H1 s1 => nx_of ?_⟩))))
  refine s_seq (s_drop (t_call2 (t_var rfl (t_var rfl ⟨S, R, x, j, rfl, kn.same s1, ht.same (off_same s1), tb, hj, fun H2 s2 => nx_of ?_⟩))))
  have s12 := s1.trans s2
  refine s_ret (t_op (t_op (fld_rows U (ht.same (off_same s12)) rfl fun v d => t_var rfl (ix_d (i := i) off_sub d rfl (row_get tb nT hi) fun u du => t_var rfl (ix_d (i := j) off_sub du rfl (num_get tb hi hj) fun z dz => q z _ s12 dz)))))
def spEqT (K : PySem.W.Frag) (C : Addr) : Sp := fun vs H Q _ => ∃ (S : Addr → Prop) (R : List (List Nat)) (x y : Addr), vs = [.ref x, .ref y] ∧ Kn S H ∧ TabAt K C (off S H) R x ∧ TabAt K C (off S H) R y ∧ ∀ H', Same H H' → Q (.bl true) H'
theorem isi_own {S : Addr → Prop} {H : Hp} {R : List (List Nat)} {x : Addr} {Q : VK} (U : TxC K mg a C) (D : TxD K C) (h : TabAt K C (off S H) R x) (q : Q (.bl true) H) : rIsi K [.ref x, .ref C] H Q := by
  obtain ⟨dx, v, hx, _⟩ := h
  exact ⟨_, _, .ref C, .ref C, true, rfl, .own C, .base (.ins (off_some hx).2 U.cls D.ha D.hn D.htk D.hm), D.own, q⟩
theorem ok_Table_eq (T : Txt K mg a fd C tk) (U : TxC K mg a C) (D : TxD K C) : FnOk P w K mg base CX0 2 (a 9) (fd 9) ["self", "other"] (spEqT K C) := by
  refine T.F_Table_eq.ok sc_Table_eq (fun vs H Q E h => by obtain ⟨_, _, _, _, rfl, _⟩ := h; rfl) (fun cdv A outer s H vs Q E hr h => ?_)
  obtain ⟨S, R, x, y, rfl, kn, hx, hy, q⟩ := h
  refine ⟨_, (pss_one (ps_ret (pe_and (pe_callB (k_isi (K := K)) (by rfl) T.z_isinstance (by decide +kernel) (pa_cons (pv 1) (pa_cons (pe_glob (v := .ref _) (by rfl) U.m_Table rfl) pa_nil))) (pe_one (pe_cmpR (k_eqD (K := K) hr.units) (k_fld (K := K) (pv 0) rfl) (k_fld (K := K) (pv 1) rfl) (nomark _)))))), ?_⟩
  refine s_ret (t_andV (t_cb2 (t_var rfl (t_c (isi_own U D hy (bl_ifT ?_))))))
  refine t_op (fld_rows U hx rfl fun v1 d1 => fld_rows U hy rfl fun v2 d2 => ⟨_, _, dp_same off_sub _ _ d1, dp_same off_sub _ _ d2, shaped_tT R, shaped_tT R, ?_⟩)
  rw [eqv_tT]
  exact q H (Same.refl _)
end
end K31

set_option maxRecDepth 100000
set_option maxHeartbeats 4000000
namespace K31
open PySem PySem.Spec PyProof.Rows L2 Kh
section
variable {P : Program} {w : World} {K : PySem.W.Frag} {mg : Str → Option Value} {base : Heap} {a : Nat → Addr} {fd : Nat → FuncData} {C : Addr} {tk : Nat → Tok}
theorem fn_none {k : Nat} {f : Addr} {fd : FuncData} {ps : List Str} {sp : Sp} (h : ∀ vs H Q E, sp vs H Q E → False) : FnOk P w K mg base CX0 k f fd ps sp :=
  ⟨fun vs H Q E q => (h vs H Q E q).elim, fun _ _ _ H _ _ vs Q E _ _ _ _ q => (h vs H Q E q).elim⟩
end
end K31

set_option maxRecDepth 100000
set_option maxHeartbeats 4000000
namespace K31
open PySem PySem.Spec PyProof.Rows L2 Kh
/-! melts: what is a tuple of two is two melts -/
def leafs : PyData → List PyData
  | .tuple [a, b] => leafs a ++ leafs b
  | d => [d]
def msz : PyData → Nat
  | .tuple [a, b] => 1 + msz a + msz b
  | _ => 1
def mdp : PyData → Nat
  | .tuple [a, b] => 1 + max (mdp a) (mdp b)
  | _ => 0
theorem leafs_pair (a b : PyData) : leafs (.tuple [a, b]) = leafs a ++ leafs b := by rw [leafs]
theorem msz_pair (a b : PyData) : msz (.tuple [a, b]) = 1 + msz a + msz b := by rw [msz]
theorem mdp_pair (a b : PyData) : mdp (.tuple [a, b]) = 1 + max (mdp a) (mdp b) := by rw [mdp]
def isPair : PyData → Bool
  | .tuple [_, _] => true
  | _ => false
theorem pair_of {d : PyData} (h : isPair d = true) : ∃ a b, d = .tuple [a, b] := by
  unfold isPair at h
  split at h
  · exact ⟨_, _, rfl⟩
  · cases h
theorem leafs_one {d : PyData} (h : isPair d = false) : leafs d = [d] := by
  unfold leafs
  split
  · cases h
  · rfl
theorem msz_one {d : PyData} (h : isPair d = false) : msz d = 1 := by
  unfold msz
  split
  · cases h
  · rfl
theorem mdp_one {d : PyData} (h : isPair d = false) : mdp d = 0 := by
  unfold mdp
  split
  · cases h
  · rfl
theorem msz_pos (d : PyData) : 1 ≤ msz d := by
  cases h : isPair d with
  | true => obtain ⟨a, b, rfl⟩ := pair_of h; rw [msz_pair]; omega
  | false => rw [msz_one h]; exact Nat.le_refl _
theorem pair_ind {Pr : PyData → Prop} (h1 : ∀ d, isPair d = false → Pr d) (h2 : ∀ a b, Pr a → Pr b → Pr (.tuple [a, b])) : ∀ (n : Nat) (d : PyData), msz d ≤ n → Pr d
  | 0, d, h => by have := msz_pos d; omega
  | n + 1, d, h => by
    cases e : isPair d with
    | false => exact h1 d e
    | true =>
      obtain ⟨a, b, rfl⟩ := pair_of e
      rw [msz_pair] at h
      exact h2 a b (pair_ind h1 h2 n a (by have := msz_pos b; omega)) (pair_ind h1 h2 n b (by have := msz_pos a; omega))
def toN : PyData → Nat
  | .int i => i.toNat
  | _ => 0
/-- the values of a melt -/
def vals (d : PyData) : List Nat := (leafs d).map toN
/-- of values below m alone -/
def meltA (m : Nat) (d : PyData) : Bool := (leafs d).all fun e => belowD ((m : Nat) : Int) e
def meltOk (m : Nat) (d : PyData) : Bool := meltA m d && decide ((leafs d).length ≤ 40)
theorem below_nat {m : Nat} {e : PyData} (h : belowD ((m : Nat) : Int) e = true) : e = nD (toN e) ∧ toN e < m := by
  cases e with
  | int i =>
    have h' : (decide (0 ≤ i) && decide (i < ((m : Nat) : Int))) = true := h
    rw [Bool.and_eq_true] at h'
    have h1 := of_decide_eq_true h'.1
    have h2 := of_decide_eq_true h'.2
    refine ⟨?_, ?_⟩
    · unfold nD toN; rw [Int.toNat_of_nonneg h1]
    · show i.toNat < m; omega
  | _ => cases h
theorem all_below {m : Nat} : ∀ {l : List PyData}, (l.all fun e => belowD ((m : Nat) : Int) e) = true → l = (l.map toN).map nD ∧ ∀ n ∈ l.map toN, n < m
  | [], _ => ⟨rfl, fun n h => by simp at h⟩
  | e :: l, h => by
    rw [List.all_cons, Bool.and_eq_true] at h
    obtain ⟨h1, h2⟩ := below_nat h.1
    obtain ⟨h3, h4⟩ := all_below h.2
    refine ⟨?_, fun n hn => ?_⟩
    · rw [List.map_cons, List.map_cons, ← h1, ← h3]
    · rw [List.map_cons] at hn
      rcases List.mem_cons.mp hn with rfl | hn
      · exact h2
      · exact h4 n hn
def msum (ds : List PyData) : Nat := (ds.map msz).sum
theorem msum_app (a b : List PyData) : msum (a ++ b) = msum a + msum b := by unfold msum; rw [List.map_append, List.sum_append]
theorem msum_one (d : PyData) : msum [d] = msz d := by unfold msum; simp
theorem len_msum : ∀ ds : List PyData, ds.length ≤ msum ds
  | [] => Nat.zero_le _
  | d :: ds => by
    have h1 := len_msum ds
    have h2 := msz_pos d
    have : msum (d :: ds) = msz d + msum ds := by unfold msum; simp
    rw [this, List.length_cons]; omega
theorem tup_len2 {d : PyData} {ds : List PyData} (h : d = .tuple ds) : isPair d = decide (ds.length = 2) := by
  subst h
  match ds with
  | [] => rfl
  | [_] => rfl
  | [_, _] => rfl
  | _ :: _ :: _ :: r => unfold isPair; exact (decide_eq_false (by simp)).symm
section
variable {P : Program} {w : World} {K : PySem.W.Frag} {mg : Str → Option Value} {base : Heap} {a : Nat → Addr} {fd : Nat → FuncData} {C : Addr} {tk : Nat → Tok}
/-- the result of a melt -/
def res (R : List (List Nat)) : PyData → Nat
  | .tuple [a, b] => at_ R (res R a) (res R b)
  | d => toN d
theorem res_pair (R : List (List Nat)) (a b : PyData) : res R (.tuple [a, b]) = at_ R (res R a) (res R b) := by rw [res]
theorem res_one {R : List (List Nat)} {d : PyData} (h : isPair d = false) : res R d = toN d := by
  unfold res
  split
  · cases h
  · rfl
theorem meltA_pair {m : Nat} {a b : PyData} : meltA m (.tuple [a, b]) = true ↔ meltA m a = true ∧ meltA m b = true := by
  unfold meltA
  rw [leafs_pair, List.all_append, Bool.and_eq_true]
theorem meltA_one {m : Nat} {d : PyData} (h : isPair d = false) (ok : meltA m d = true) : d = nD (toN d) ∧ toN d < m := by
  unfold meltA at ok
  rw [leafs_one h] at ok
  exact below_nat (by simpa using ok)
theorem res_lt {R : List (List Nat)} (tb : Tb R) : ∀ d, meltA R.length d = true → res R d < R.length := fun d => by
  refine pair_ind (Pr := fun d => meltA R.length d = true → res R d < R.length) (fun d h ok => ?_) (fun a b ha hb ok => ?_) (msz d) d (Nat.le_refl _)
  · rw [res_one h]; exact (meltA_one h ok).2
  · have := meltA_pair.mp ok
    rw [res_pair]; exact (tb.at_get (ha this.1) (hb this.2)).2
theorem t_meth2 {ta tb tc : TE} {sp : Sp} {σ : L2.St} {H : Hp} {Q : VK} {E : XK} {m : Str} (h : ta σ H fun x H1 => ∃ a dx fs, x = .ref a ∧ H1 a = some (.ins C dx fs) ∧ fs.lookup m = none ∧ tb σ H1 fun y H2 => tc σ H2 fun z H3 => sp [x, y, z] H3 Q E) : tMeth C m sp [] E ta (tCons tb (tCons tc tNil)) σ H Q := h
theorem kTup_one {d : PyData} {m : Nat} (h : isPair d = false) (ok : meltA m d = true) : kTup d = false := by
  rw [(meltA_one h ok).1]; rfl
end
end K31

set_option maxRecDepth 100000
set_option maxHeartbeats 4000000
namespace K31
open PySem PySem.Spec PyProof.Rows L2 Kh
/-! tables that melt -/
structure Melts (R : List (List Nat)) : Prop where
  idem : ∀ x, x < R.length → at_ R x x = x
  comm : ∀ x y, x < R.length → y < R.length → at_ R x y = at_ R y x
  assoc : ∀ x y z, x < R.length → y < R.length → z < R.length → at_ R (at_ R x y) z = at_ R x (at_ R y z)
/-- unlike ones, rising -/
def uq (l : List Nat) : List Nat := (List.range 8).filter fun n => decide (n ∈ l)
theorem uq_mem {l : List Nat} (h : ∀ n ∈ l, n < 8) {n : Nat} : n ∈ uq l ↔ n ∈ l := by
  unfold uq
  rw [List.mem_filter, List.mem_range, decide_eq_true_iff]
  exact ⟨fun q => q.2, fun q => ⟨h n q, q⟩⟩
theorem uq_rise (l : List Nat) : (uq l).Pairwise (· < ·) := List.Pairwise.filter _ List.pairwise_lt_range
theorem uq_same {l m : List Nat} (h : ∀ n, n ∈ l ↔ n ∈ m) : uq l = uq m := by
  unfold uq
  exact List.filter_congr fun n _ => decide_eq_decide.mpr (h n)
theorem uq_iff {l m : List Nat} (hl : ∀ n ∈ l, n < 8) (hm : ∀ n ∈ m, n < 8) : uq l = uq m ↔ ∀ n, n ∈ l ↔ n ∈ m :=
  ⟨fun h n => by rw [← uq_mem hl, ← uq_mem hm, h], uq_same⟩
theorem rise_natZ : ∀ {l : List Nat}, l.Pairwise (· < ·) → (l.map fun n : Nat => ((n : Nat) : Int)).Pairwise (· < ·) := fun h => List.pairwise_map.mpr (h.imp fun q => by omega)
theorem k_sset {X : Cx} {w : World} (hc : X.calm = true) (h : X.w = w := by rfl) : CallR X (.builtin "sorted") (rSortedSet w) := by subst h; exact cr_sortedSet hc
theorem k_setW {X : Cx} {K : PySem.W.Frag} {w : World} (hc : X.calm = true) (h : X.K = K := by rfl) (hw : X.w = w := by rfl) : CallR X (.type "set") (rSetOf K w) := by subst h; subst hw; exact cr_setOf hc
theorem sort_set {K : PySem.W.Frag} {w : World} {S : Addr → Prop} {H : Hp} {v : V} {l : List Nat} {Q : VK} (kn : Kn S H) (hd : Dp K (off S H) v (nL l)) (few : l.length ≤ 60) (h8 : ∀ n ∈ l, n < 8)
    (q : ∀ u H', Same H H' → Dp K (off S H') u (nL (uq l)) → Q u H') : rSetOf K w [v] H fun x H2 => rSortedSet w [x] H2 Q := by
  obtain ⟨r, xs, rfl, hs, ha⟩ := list_at (ds := l.map nD) hd
  have ex := dpa_ints (ns := l.map fun m : Nat => ((m : Nat) : Int)) (by rw [← nD_map]; exact ha)
  subst ex
  refine ⟨r, l.map fun m : Nat => ((m : Nat) : Int), rfl, off_sub.seq hs, by rw [List.length_map]; omega, fun p n hp hn => ⟨p, _, n, rfl, upd_same, by rw [List.length_map] at hn; omega, fun ns p2 hr hm hl hp2 => ?_⟩⟩
  have e : ns = (uq l).map fun m : Nat => ((m : Nat) : Int) := rise_eq hr (rise_natZ (uq_rise l)) fun k => by
    rw [hm, decide_eq_true_eq, List.mem_map, List.mem_map]
    constructor
    · rintro ⟨m, h, rfl⟩; exact ⟨m, (uq_mem h8).mpr h, rfl⟩
    · rintro ⟨m, h, rfl⟩; exact ⟨m, (uq_mem h8).mp h, rfl⟩
  subst e
  have s2 := same_new (o := SetO w p (fun j => decide (j ∈ l.map fun m : Nat => ((m : Nat) : Int))) n) hp
  refine q _ _ (s2.trans (same_new hp2)) (dp_newL (kn.same s2) hp2 ?_)
  rw [nD_map]; exact ints_dpa _
theorem eqvAll_nums : ∀ a b : List Nat, PyData.eqvAll (a.map nD) (b.map nD) = decide (a = b)
  | [], [] => by rw [List.map_nil, PyData.eqvAll]; rfl
  | [], b :: bs => by rw [List.map_nil, List.map_cons, PyData.eqvAll]; rfl
  | a :: as, [] => by rw [List.map_nil, List.map_cons, PyData.eqvAll]; rfl
  | a :: as, b :: bs => by
    rw [List.map_cons, List.map_cons, PyData.eqvAll, eqvAll_nums as bs]
    have e : PyData.eqv (nD a) (nD b) = decide (a = b) := by
      unfold nD; rw [PyData.eqv]
      by_cases h : a = b
      · rw [h, decide_eq_true rfl]; simp
      · rw [decide_eq_false h]; exact beq_eq_false_iff_ne.mpr (by omega)
    rw [e]
    by_cases h : a = b
    · subst h; simp
    · simp [h]
theorem eqv_nums (a b : List Nat) : PyData.eqv (nL a) (nL b) = decide (a = b) := by
  unfold nL; rw [PyData.eqv]; exact eqvAll_nums a b
theorem ne_nums {K : PySem.W.Frag} {S : Addr → Prop} {H : Hp} {u v : V} {l m : List Nat} {Q : VK} (h1 : Dp K (off S H) u (nL l)) (h2 : Dp K (off S H) v (nL m)) (q : Q (.bl (!decide (l = m))) H) : rNeD K u v H Q := by
  refine ⟨_, _, dp_same off_sub _ _ h1, dp_same off_sub _ _ h2, shd_shaped (shd_nL _), shd_shaped (shd_nL _), ?_⟩
  rw [eqv_nums]; exact q
/-- what is read, without a change -/
def Rdn (te : TE) (σ : L2.St) (H : Hp) (n : Nat) : Prop := ∀ Q : VK, Q (.int (n : Nat)) H → te σ H Q
theorem rd_var {i n : Nat} {σ : L2.St} {H : Hp} (h : σ[i]? = some (some (.int (n : Nat)))) : Rdn (tVar i) σ H n := fun Q q => t_var h q
theorem rd_at {K : PySem.W.Frag} {S : Addr → Prop} {σ : L2.St} {H : Hp} {k : Nat} {vR : V} {R : List (List Nat)} {ti tj : TE} {i j : Nat} (tb : Tb R) (hv : σ[k]? = some (some vR)) (dR : Dp K (off S H) vR (nLL R)) (ri : Rdn ti σ H i) (rj : Rdn tj σ H j) (hi : i < R.length) (hj : j < R.length) : Rdn (tOp (rIx K) (tOp (rIx K) (tVar k) ti) tj) σ H (at_ R i j) := fun Q q =>
  t_op (t_op (t_var hv (ri _ (ix_d (i := i) off_sub dR rfl (row_get tb nL hi) fun u du => rj _ (ix_d (i := j) off_sub du rfl (num_get tb hi hj) fun z dz => by cases dz; exact q)))))
theorem rg_ok {n : Nat} (h : n ≤ 1000) : RgOk 0 ((n : Nat) : Int) := .of_le (by decide) (by omega) (by decide) (by omega)
theorem rg_val (n : Nat) : rgV 0 ((n : Nat) : Int) = ivs (List.range n) := by
  unfold rgV
  rw [Int.sub_zero, Int.toNat_natCast]
  exact List.map_congr_left fun m _ => by rw [Int.zero_add]
theorem rng_get {n i m : Nat} (h : (List.range n)[i]? = some m) : m = i ∧ i < n := by
  have hi := (List.getElem?_eq_some_iff.mp h).1
  rw [List.length_range] at hi
  rw [List.getElem?_range hi] at h
  exact ⟨(Option.some.inj h).symm, hi⟩
section
variable {P : Program} {w : World} {K : PySem.W.Frag} {mg : Str → Option Value} {base : Heap} {a : Nat → Addr} {fd : Nat → FuncData} {C : Addr} {tk : Nat → Tok}
theorem meltOk_A {m : Nat} {d : PyData} (h : meltOk m d = true) : meltA m d = true := by
  unfold meltOk at h
  exact (Bool.and_eq_true_iff.mp h).1
/-- whether two melts part a table -/
def partsB (R : List (List Nat)) (a b : PyData) : Bool := meltOk R.length a && meltOk R.length b && decide (uq (vals a) = uq (vals b)) && !decide (res R a = res R b)
def isPartD (R : List (List Nat)) : PyData → Bool
  | .tuple [a, b] => partsB R a b
  | _ => false
theorem isPart_pair (R : List (List Nat)) (a b : PyData) : isPartD R (.tuple [a, b]) = partsB R a b := rfl
theorem isPart_one {R : List (List Nat)} {d : PyData} (h : isPair d = false) : isPartD R d = false := by
  unfold isPartD
  split
  · cases h
  · rfl
theorem vals_ok {m : Nat} {d : PyData} (h : meltOk m d = true) (h7 : m ≤ 7) : (∀ n ∈ vals d, n < 8) ∧ (vals d).length ≤ 40 := by
  have h' := h
  unfold meltOk at h'
  rw [Bool.and_eq_true] at h'
  have l := of_decide_eq_true h'.2
  unfold meltA at h'
  refine ⟨fun n hn => ?_, by unfold vals; rw [List.length_map]; exact l⟩
  have := (all_below h'.1).2 n hn
  omega
end
end K31

set_option maxRecDepth 100000
set_option maxHeartbeats 4000000
namespace K31
open PySem PySem.Spec PyProof.Rows L2 Kh
/-- two melts that part a table, as they are told -/
structure PartOf (R : List (List Nat)) (a b : PyData) : Prop where
  oka : meltA R.length a = true
  okb : meltA R.length b = true
  la : (leafs a).length ≤ 3
  lb : (leafs b).length ≤ 3
  da : mdp a ≤ 2
  db : mdp b ≤ 2
  sa : msz a ≤ 5
  sb : msz b ≤ 5
  same : ∀ n, n ∈ vals a ↔ n ∈ vals b
  ne : res R a ≠ res R b
theorem pair_nD (n : Nat) : isPair (nD n) = false := rfl
theorem leafs_nD (n : Nat) : leafs (nD n) = [nD n] := leafs_one rfl
theorem toN_nD (n : Nat) : toN (nD n) = n := by simp [toN, nD]
theorem vals_nD (n : Nat) : vals (nD n) = [n] := by unfold vals; rw [leafs_nD]; simp [toN_nD]
theorem vals_pair (a b : PyData) : vals (.tuple [a, b]) = vals a ++ vals b := by unfold vals; rw [leafs_pair, List.map_append]
theorem meltA_nD {m n : Nat} (h : n < m) : meltA m (nD n) = true := by unfold meltA; rw [leafs_nD]; simp [below_ok h]
theorem res_nD (R : List (List Nat)) (n : Nat) : res R (nD n) = n := by rw [res_one rfl, toN_nD]
theorem msz_nD (n : Nat) : msz (nD n) = 1 := msz_one rfl
theorem mdp_nD (n : Nat) : mdp (nD n) = 0 := mdp_one rfl
abbrev p2 (a b : PyData) : PyData := .tuple [a, b]
theorem part_idem {R : List (List Nat)} {x : Nat} (hx : x < R.length) (h : at_ R x x ≠ x) : PartOf R (p2 (nD x) (nD x)) (nD x) where
  oka := meltA_pair.mpr ⟨meltA_nD hx, meltA_nD hx⟩
  okb := meltA_nD hx
  la := by simp [leafs_pair, leafs_nD]
  lb := by simp [leafs_nD]
  da := by simp [mdp_pair, mdp_nD]
  db := by simp [mdp_nD]
  sa := by simp [msz_pair, msz_nD]
  sb := by simp [msz_nD]
  same := fun n => by simp [vals_pair, vals_nD]
  ne := by rw [res_pair, res_nD]; exact h
theorem part_comm {R : List (List Nat)} {x y : Nat} (hx : x < R.length) (hy : y < R.length) (h : at_ R x y ≠ at_ R y x) : PartOf R (p2 (nD x) (nD y)) (p2 (nD y) (nD x)) where
  oka := meltA_pair.mpr ⟨meltA_nD hx, meltA_nD hy⟩
  okb := meltA_pair.mpr ⟨meltA_nD hy, meltA_nD hx⟩
  la := by simp [leafs_pair, leafs_nD]
  lb := by simp [leafs_pair, leafs_nD]
  da := by simp [mdp_pair, mdp_nD]
  db := by simp [mdp_pair, mdp_nD]
  sa := by simp [msz_pair, msz_nD]
  sb := by simp [msz_pair, msz_nD]
  same := fun n => by simp [vals_pair, vals_nD]; exact or_comm
  ne := by rw [res_pair, res_pair, res_nD, res_nD]; exact h
theorem part_assoc {R : List (List Nat)} {x y z : Nat} (hx : x < R.length) (hy : y < R.length) (hz : z < R.length) (h : at_ R (at_ R x y) z ≠ at_ R x (at_ R y z)) : PartOf R (p2 (p2 (nD x) (nD y)) (nD z)) (p2 (nD x) (p2 (nD y) (nD z))) where
  oka := meltA_pair.mpr ⟨meltA_pair.mpr ⟨meltA_nD hx, meltA_nD hy⟩, meltA_nD hz⟩
  okb := meltA_pair.mpr ⟨meltA_nD hx, meltA_pair.mpr ⟨meltA_nD hy, meltA_nD hz⟩⟩
  la := by simp [leafs_pair, leafs_nD]
  lb := by simp [leafs_pair, leafs_nD]
  da := by simp [mdp_pair, mdp_nD]
  db := by simp [mdp_pair, mdp_nD]
  sa := by simp [msz_pair, msz_nD]
  sb := by simp [msz_pair, msz_nD]
  same := fun n => by simp [vals_pair, vals_nD]
  ne := by rw [res_pair, res_pair, res_pair, res_pair, res_nD, res_nD, res_nD]; exact h
section
variable {P : Program} {w : World} {K : PySem.W.Frag} {mg : Str → Option Value} {base : Heap} {a : Nat → Addr} {fd : Nat → FuncData} {C : Addr} {tk : Nat → Tok}
def spParting (K : PySem.W.Frag) (C : Addr) : Sp := fun vs H Q _ => ∃ (S : Addr → Prop) (R : List (List Nat)) (x : Addr), vs = [.ref x] ∧ Kn S H ∧ TabAt K C (off S H) R x ∧ Tb R ∧
  (Melts R → ∀ H', Same H H' → Q .non H') ∧ (∀ u H' d1 d2, Same H H' → Dp K (off S H') u (p2 d1 d2) → PartOf R d1 d2 → ¬ Melts R → Q u H')
/-- a tuple of two -/
theorem t_p2 {S : Addr → Prop} {σ : L2.St} {H : Hp} {ta tb : TE} {d1 d2 : PyData} {Q : VK} (h : ∀ Q : VK, (∀ u H', Same H H' → Kn S H' → Dp K (off S H') u d1 → Q u H') → ta σ H Q) (h2 : ∀ H1, Same H H1 → Kn S H1 → ∀ Q : VK, (∀ u H', Same H1 H' → Kn S H' → Dp K (off S H') u d2 → Q u H') → tb σ H1 Q)
    (q : ∀ u H', Same H H' → Kn S H' → Dp K (off S H') u (p2 d1 d2) → Q u H') : tTup (tCons ta (tCons tb tNil)) σ H Q :=
  t_tup (a_cons (h _ fun u1 H1 s1 kn1 e1 => a_cons (h2 H1 s1 kn1 _ fun u2 H2 s2 kn2 e2 => a_nil ⟨le2, fun p hp => q _ _ ((s1.trans s2).trans (same_new hp)) (kn2.same (same_new hp)) (dp_newT kn2 hp (.cons (dp_same (off_same s2) _ _ e1) (.cons e2 .nil)))⟩)))
theorem e_v {S : Addr → Prop} {σ : L2.St} {H : Hp} {i n : Nat} (hi : σ[i]? = some (some (.int (n : Nat)))) (kn : Kn S H) (Q : VK) (q : ∀ u H', Same H H' → Kn S H' → Dp K (off S H') u (nD n) → Q u H') : tVar i σ H Q := t_var hi (q _ _ (Same.refl _) kn (.int _))
theorem ok_parting (T : Txt K mg a fd C tk) (U : TxC K mg a C) : FnOk P w K mg base CX0 4 (a 12) (fd 12) ["table"] (spParting K C) := by
  have G_Table_rows := ok_Table_rows (P := P) (w := w) (base := base) T U
  refine T.F_parting.ok sc_parting (fun vs H Q E h => by obtain ⟨_, _, _, rfl, _⟩ := h; rfl) (fun cdv A outer s H vs Q E hr h => ?_)
  obtain ⟨S, R, x, rfl, kn, ht, tb, qm, qp⟩ := h
  have h7 := tb.few
  obtain ⟨dx, fv, hx, _⟩ := id ht
  refine ⟨_, (pss_cons (ps_set (i := 1) sc_parting.nd rfl (Or.inl rfl) (pe_meth0 (pv 0) U.cls U.me_rows G_Table_rows (hr.mono (by omega)) T.b_Table_rows .nil pass0))
      (pss_cons (ps_set (i := 2) sc_parting.nd rfl (Or.inl rfl) (pe_listRg rfl (by rfl) T.z_list (prg_1 (by rfl) T.z_range (pe_callB (k_len (K := K)) (by rfl) T.z_len (by decide +kernel) (pa_cons (pv 1) pa_nil)))))
      (pss_cons (ps_for PassesOwn.never rfl (k_pi (K := K) (pv 2)) (pg_name (i := 3) sc_parting.nd rfl (Or.inl rfl))
        (pss_one (ps_if (pt_cmpR op_ne (pe_ix (k_ix (K := K)) (pe_ix (k_ix (K := K)) (pv 1) (pv 3) (fun _ _ => rfl)) (pv 3) (fun _ _ => rfl)) (pv 3) (nomark _))
          (pss_one (ps_ret (pe_tup (pa_cons (pe_tup (pa_cons (pv 3) (pa_cons (pv 3) pa_nil))) (pa_cons (pv 3) pa_nil))))) pss_nil)))
      (pss_cons (ps_for PassesOwn.never rfl (k_pi (K := K) (pv 2)) (pg_name (i := 3) sc_parting.nd rfl (Or.inl rfl))
        (pss_one (ps_for PassesOwn.never rfl (k_pi (K := K) (pv 2)) (pg_name (i := 4) sc_parting.nd rfl (Or.inl rfl))
          (pss_one (ps_if (pt_cmpR op_ne (pe_ix (k_ix (K := K)) (pe_ix (k_ix (K := K)) (pv 1) (pv 3) (fun _ _ => rfl)) (pv 4) (fun _ _ => rfl)) (pe_ix (k_ix (K := K)) (pe_ix (k_ix (K := K)) (pv 1) (pv 4) (fun _ _ => rfl)) (pv 3) (fun _ _ => rfl)) (nomark _))
            (pss_one (ps_ret (pe_tup (pa_cons (pe_tup (pa_cons (pv 3) (pa_cons (pv 4) pa_nil))) (pa_cons (pe_tup (pa_cons (pv 4) (pa_cons (pv 3) pa_nil))) pa_nil))))) pss_nil)))))
      (pss_cons (ps_for PassesOwn.never rfl (k_pi (K := K) (pv 2)) (pg_name (i := 3) sc_parting.nd rfl (Or.inl rfl))
        (pss_one (ps_for PassesOwn.never rfl (k_pi (K := K) (pv 2)) (pg_name (i := 4) sc_parting.nd rfl (Or.inl rfl))
          (pss_one (ps_for PassesOwn.never rfl (k_pi (K := K) (pv 2)) (pg_name (i := 5) sc_parting.nd rfl (Or.inl rfl))
            (pss_one (ps_if (pt_cmpR op_ne (pe_ix (k_ix (K := K)) (pe_ix (k_ix (K := K)) (pv 1) (pe_ix (k_ix (K := K)) (pe_ix (k_ix (K := K)) (pv 1) (pv 3) (fun _ _ => rfl)) (pv 4) (fun _ _ => rfl)) (fun _ _ => rfl)) (pv 5) (fun _ _ => rfl)) (pe_ix (k_ix (K := K)) (pe_ix (k_ix (K := K)) (pv 1) (pv 3) (fun _ _ => rfl)) (pe_ix (k_ix (K := K)) (pe_ix (k_ix (K := K)) (pv 1) (pv 4) (fun _ _ => rfl)) (pv 5) (fun _ _ => rfl)) (fun _ _ => rfl)) (nomark _))
              (pss_one (ps_ret (pe_tup (pa_cons (pe_tup (pa_cons (pe_tup (pa_cons (pv 3) (pa_cons (pv 4) pa_nil))) (pa_cons (pv 5) pa_nil))) (pa_cons (pe_tup (pa_cons (pv 3) (pa_cons (pe_tup (pa_cons (pv 4) (pa_cons (pv 5) pa_nil))) pa_nil))) pa_nil))))) pss_nil)))))))
      (pss_one (ps_ret pe_non))))))), ?_⟩
  refine s_seq (s_set (t_meth0 (t_var rfl ⟨x, dx, _, rfl, (off_some hx).2, rfl, S, R, x, (), [], rfl, kn, ht, tb, .nil, trivial, fun vR H1 s1 dR => nx_of ?_⟩)))
  replace dR : Dp K (off S H1) vR (.list (R.map nL)) := dR
  have kn1 := kn.same s1
  refine s_seq (s_set (t_cb1 (t_var rfl (len_d off_sub dR rfl ⟨_, rfl, rg_ok (by rw [List.length_map]; omega), fun lV hV => ?_⟩))))
  rw [List.length_map, rg_val]
  have s2 := same_new (o := HO.lst (ivs (List.range R.length))) hV
  have dV := dp_newL (K := K) kn1 hV (nats_dpa (List.range R.length))
  refine nx_of ?_
  generalize upd H1 lV (.lst (ivs (List.range R.length))) = H2 at *
  obtain ⟨vV, eV⟩ : ∃ vV, vV = V.ref lV := ⟨_, rfl⟩
  rw [← eV] at dV ⊢
  have s02 := s1.trans s2
  have kn2 := kn1.same s2
  have dR2 : Dp K (off S H2) vR (nLL R) := dp_same (off_same s2) _ _ dR
  have rows : ∀ {H'}, Same H2 H' → Dp K (off S H') vR (nLL R) := fun {H'} s => dp_same (off_same s) _ _ dR2
  have vals' : ∀ {H'}, Same H2 H' → Dp K (off S H') vV (.list ((List.range R.length).map nD)) := fun {H'} s => dp_same (off_same s) _ _ dV
  refine s_seq (forM (S := S) false (List.range R.length) nD kn2 (fun Q q => t_var rfl (q _ _ (Same.refl _) (vals' (Same.refl _)))) fun H3 s3 kn3 => ?_)
  refine ⟨fun i σ' H' => ∃ x3 x4 x5 : Option V, σ' = [some (.ref x), some vR, some vV, x3, x4, x5] ∧ Same H3 H' ∧ ∀ k, k < i → at_ R k k = k, ⟨_, _, _, rfl, Same.refl _, fun k h => by omega⟩, fun i σ' H' ⟨_, _, _, _, s, _⟩ => off_sub.trans s, ?_, ?_⟩
  · rintro i m y σ' H' ni hi hm dy ⟨x3, x4, x5, rfl, s, ok⟩
    cases dy
    obtain ⟨rfl, hn⟩ := rng_get ni
    have sr := s3.trans s
    refine g_name (s_if (b_test (t_op (rd_at tb rfl (rows sr) (rd_var rfl) (rd_var rfl) hn hn _ (t_var rfl ⟨rfl, _, rfl, ?_⟩)))))
    rw [dec_int]
    by_cases e : at_ R m m = m
    · refine ifF (by rw [decide_eq_true e]; rfl) (s_next ⟨_, _, _, rfl, s, fun k hk => ?_⟩)
      by_cases h : k < m
      · exact ok k h
      · rw [show k = m by omega]; exact e
    · refine ifT (by rw [decide_eq_false e]; rfl) (s_ret (t_p2 (S := S) (d1 := p2 (nD m) (nD m)) (d2 := nD m) (fun Q q => t_p2 (S := S) (fun Q q => e_v rfl (kn3.same s) Q q) (fun H1 s1 kn1 Q q => e_v rfl kn1 Q q) q) (fun H1 s1 kn1 Q q => e_v rfl kn1 Q q) fun u H4 s4 kn4 d4 => qp u H4 _ _ ((s02.trans sr).trans s4) d4 (part_idem hn e) (fun m' => e (m'.idem _ hn))))
  rintro σ' H4 ⟨x3, x4, x5, rfl, s4, idem⟩
  rw [List.length_range] at idem
  have s24 := s3.trans s4
  refine nx_of (s_seq (forM (S := S) false (List.range R.length) nD (kn2.same s24) (fun Q q => t_var rfl (q _ _ (Same.refl _) (vals' s24))) fun H5 s5 kn5 => ?_))
  have s25 := s24.trans s5
  refine ⟨fun i σ' H' => ∃ x3 x4 x5 : Option V, σ' = [some (.ref x), some vR, some vV, x3, x4, x5] ∧ Same H5 H' ∧ ∀ k l, k < i → l < R.length → at_ R k l = at_ R l k, ⟨_, _, _, rfl, Same.refl _, fun k l h => by omega⟩, fun i σ' H' ⟨_, _, _, _, s, _⟩ => off_sub.trans s, ?_, ?_⟩
  · rintro i m y σ' H' ni hi hm dy ⟨x3, x4, x5, rfl, s, ok⟩
    cases dy
    obtain ⟨rfl, hn⟩ := rng_get ni
    have sr := s25.trans s
    refine g_name (forM (S := S) false (List.range R.length) nD (kn2.same sr) (fun Q q => t_var rfl (q _ _ (Same.refl _) (vals' sr))) fun H6 s6 kn6 => ?_)
    have sr6 := sr.trans s6
    refine ⟨fun j σ' H' => ∃ x4 x5 : Option V, σ' = [some (.ref x), some vR, some vV, some (.int (m : Nat)), x4, x5] ∧ Same H6 H' ∧ ∀ l, l < j → at_ R m l = at_ R l m, ⟨_, _, rfl, Same.refl _, fun l h => by omega⟩, fun i σ' H' ⟨_, _, _, s, _⟩ => off_sub.trans s, ?_, ?_⟩
    · rintro j l z σ' H7 nj hj hm2 dz ⟨x4, x5, rfl, s7, ok2⟩
      cases dz
      obtain ⟨rfl, hl⟩ := rng_get nj
      have sr7 := sr6.trans s7
      refine g_name (s_if (b_test (t_op (rd_at tb rfl (rows sr7) (rd_var rfl) (rd_var rfl) hn hl _ (rd_at tb rfl (rows sr7) (rd_var rfl) (rd_var rfl) hl hn _ ⟨rfl, _, rfl, ?_⟩)))))
      rw [dec_int]
      by_cases e : at_ R m l = at_ R l m
      · refine ifF (by rw [decide_eq_true e]; rfl) (s_next ⟨_, _, rfl, s7, fun k hk => ?_⟩)
        by_cases h : k < l
        · exact ok2 k h
        · rw [show k = l by omega]; exact e
      · refine ifT (by rw [decide_eq_false e]; rfl) (s_ret (t_p2 (S := S) (d1 := p2 (nD m) (nD l)) (d2 := p2 (nD l) (nD m)) (fun Q q => t_p2 (S := S) (fun Q q => e_v rfl (kn2.same sr7) Q q) (fun H1 s1 kn1 Q q => e_v rfl kn1 Q q) q) (fun H1 s1 kn1 Q q => t_p2 (S := S) (fun Q q => e_v rfl kn1 Q q) (fun H1 s1 kn1 Q q => e_v rfl kn1 Q q) q) fun u H4 s4 kn4 d4 => qp u H4 _ _ ((s02.trans sr7).trans s4) d4 (part_comm hn hl e) (fun m' => e (m'.comm _ _ hn hl))))
    · rintro σ' H7 ⟨x4, x5, rfl, s7, ok2⟩
      rw [List.length_range] at ok2
      refine nx_of ⟨_, _, _, rfl, s.trans (s6.trans s7), fun k l hk hl => ?_⟩
      by_cases h : k < m
      · exact ok k l h hl
      · rw [show k = m by omega]; exact ok2 l hl
  rintro σ' H6 ⟨x3, x4, x5, rfl, s6, comm⟩
  rw [List.length_range] at comm
  have s26 := s25.trans s6
  refine nx_of (s_seq (forM (S := S) false (List.range R.length) nD (kn2.same s26) (fun Q q => t_var rfl (q _ _ (Same.refl _) (vals' s26))) fun H7 s7 kn7 => ?_))
  have s27 := s26.trans s7
  refine ⟨fun i σ' H' => ∃ x3 x4 x5 : Option V, σ' = [some (.ref x), some vR, some vV, x3, x4, x5] ∧ Same H7 H' ∧ ∀ k l j, k < i → l < R.length → j < R.length → at_ R (at_ R k l) j = at_ R k (at_ R l j), ⟨_, _, _, rfl, Same.refl _, fun k l j h => by omega⟩, fun i σ' H' ⟨_, _, _, _, s, _⟩ => off_sub.trans s, ?_, ?_⟩
  · rintro i m y σ' H' ni hi hm dy ⟨x3, x4, x5, rfl, s, ok⟩
    cases dy
    obtain ⟨rfl, hn⟩ := rng_get ni
    have sr := s27.trans s
    refine g_name (forM (S := S) false (List.range R.length) nD (kn2.same sr) (fun Q q => t_var rfl (q _ _ (Same.refl _) (vals' sr))) fun H8 s8 kn8 => ?_)
    have sr8 := sr.trans s8
    refine ⟨fun j σ' H' => ∃ x4 x5 : Option V, σ' = [some (.ref x), some vR, some vV, some (.int (m : Nat)), x4, x5] ∧ Same H8 H' ∧ ∀ l k, l < j → k < R.length → at_ R (at_ R m l) k = at_ R m (at_ R l k), ⟨_, _, rfl, Same.refl _, fun l k h => by omega⟩, fun i σ' H' ⟨_, _, _, s, _⟩ => off_sub.trans s, ?_, ?_⟩
    · rintro j l z σ' H9 nj hj hm2 dz ⟨x4, x5, rfl, s9, ok2⟩
      cases dz
      obtain ⟨rfl, hl⟩ := rng_get nj
      have sr9 := sr8.trans s9
      refine g_name (forM (S := S) false (List.range R.length) nD (kn2.same sr9) (fun Q q => t_var rfl (q _ _ (Same.refl _) (vals' sr9))) fun H10 s10 kn10 => ?_)
      have sr10 := sr9.trans s10
      refine ⟨fun j σ' H' => ∃ x5 : Option V, σ' = [some (.ref x), some vR, some vV, some (.int (m : Nat)), some (.int (l : Nat)), x5] ∧ Same H10 H' ∧ ∀ k, k < j → at_ R (at_ R m l) k = at_ R m (at_ R l k), ⟨_, rfl, Same.refl _, fun k h => by omega⟩, fun i σ' H' ⟨_, _, s, _⟩ => off_sub.trans s, ?_, ?_⟩
      · rintro k r z2 σ' H11 nk hk hm3 dz2 ⟨x5, rfl, s11, ok3⟩
        cases dz2
        obtain ⟨rfl, hr'⟩ := rng_get nk
        have sr11 := sr10.trans s11
        have hml := (tb.at_get hn hl).2
        have hlr := (tb.at_get hl hr').2
        refine g_name (s_if (b_test (t_op (rd_at tb rfl (rows sr11) (rd_at tb rfl (rows sr11) (rd_var rfl) (rd_var rfl) hn hl) (rd_var rfl) hml hr' _ (rd_at tb rfl (rows sr11) (rd_var rfl) (rd_at tb rfl (rows sr11) (rd_var rfl) (rd_var rfl) hl hr') hn hlr _ ⟨rfl, _, rfl, ?_⟩)))))
        rw [dec_int]
        by_cases e : at_ R (at_ R m l) r = at_ R m (at_ R l r)
        · refine ifF (by rw [decide_eq_true e]; rfl) (s_next ⟨_, rfl, s11, fun k hk => ?_⟩)
          by_cases h : k < r
          · exact ok3 k h
          · rw [show k = r by omega]; exact e
        · refine ifT (by rw [decide_eq_false e]; rfl) (s_ret (t_p2 (S := S) (d1 := p2 (p2 (nD m) (nD l)) (nD r)) (d2 := p2 (nD m) (p2 (nD l) (nD r))) (fun Q q => t_p2 (S := S) (fun Q q => t_p2 (S := S) (fun Q q => e_v rfl (kn2.same sr11) Q q) (fun H1 s1 kn1 Q q => e_v rfl kn1 Q q) q) (fun H1 s1 kn1 Q q => e_v rfl kn1 Q q) q) (fun H1 s1 kn1 Q q => t_p2 (S := S) (fun Q q => e_v rfl kn1 Q q) (fun H1 s1 kn1 Q q => t_p2 (S := S) (fun Q q => e_v rfl kn1 Q q) (fun H1 s1 kn1 Q q => e_v rfl kn1 Q q) q) q) fun u H4 s4 kn4 d4 => qp u H4 _ _ ((s02.trans sr11).trans s4) d4 (part_assoc hn hl hr' e) (fun m' => e (m'.assoc _ _ _ hn hl hr'))))
      · rintro σ' H11 ⟨x5, rfl, s11, ok3⟩
        rw [List.length_range] at ok3
        refine nx_of ⟨_, _, rfl, s9.trans (s10.trans s11), fun k r hk hr' => ?_⟩
        by_cases h : k < l
        · exact ok2 k r h hr'
        · rw [show k = l by omega]; exact ok3 r hr'
    · rintro σ' H9 ⟨x4, x5, rfl, s9, ok2⟩
      rw [List.length_range] at ok2
      refine nx_of ⟨_, _, _, rfl, s.trans (s8.trans s9), fun k l r hk hl hr' => ?_⟩
      by_cases h : k < m
      · exact ok k l r h hl hr'
      · rw [show k = m by omega]; exact ok2 l r hl hr'
  rintro σ' H8 ⟨x3, x4, x5, rfl, s8, assoc⟩
  rw [List.length_range] at assoc
  exact nx_of (s_ret (t_c (qm ⟨idem, fun x y hx hy => comm x y hx hy, fun x y z hx hy hz => assoc x y z hx hy hz⟩ _ ((s02.trans s27).trans s8))))
end
end K31

set_option maxRecDepth 100000
set_option maxHeartbeats 4000000
namespace K31
open PySem PySem.Spec PyProof.Rows L2 Kh
section
variable {P : Program} {w : World} {K : PySem.W.Frag} {mg : Str → Option Value} {base : Heap} {a : Nat → Addr} {fd : Nat → FuncData} {C : Addr} {tk : Nat → Tok}
def spMelts (K : PySem.W.Frag) (C : Addr) : Sp := fun vs H Q _ => ∃ (S : Addr → Prop) (R : List (List Nat)) (x : Addr), vs = [.ref x] ∧ Kn S H ∧ TabAt K C (off S H) R x ∧ Tb R ∧
  (Melts R → ∀ H', Same H H' → Q (.bl true) H') ∧ (¬ Melts R → ∀ H', Same H H' → Q (.bl false) H')
theorem ok_melts (T : Txt K mg a fd C tk) (U : TxC K mg a C) : FnOk P w K mg base CX0 5 (a 13) (fd 13) ["table"] (spMelts K C) := by
  have G_parting := ok_parting (P := P) (w := w) (base := base) T U
  refine T.F_melts.ok sc_melts (fun vs H Q E h => by obtain ⟨_, _, _, rfl, _⟩ := h; rfl) (fun cdv A outer s H vs Q E hr h => ?_)
  obtain ⟨S, R, x, rfl, kn, ht, tb, qt, qf⟩ := h
  refine ⟨_, (pss_one (ps_ret (pe_cmpR op_isN (pe_call G_parting (hr.mono (by omega)) (by rfl) T.m_parting T.F_parting.kp T.b_parting .nil pass0 (pa_cons (pv 0) pa_nil)) pe_non (nomark _)))), ?_⟩
  refine s_ret (t_op (t_call1 (t_var rfl ⟨S, R, x, rfl, kn, ht, tb, fun m H1 s1 => t_c ⟨rfl, ?_⟩, fun u H1 d1 d2 s1 du _ nm => t_c ⟨rfl, ?_⟩⟩)))
  · have e : decide (V.non = V.non) = true := decide_eq_true rfl
    rw [e]; exact qt m H1 s1
  · obtain ⟨l, xs, rfl, _, _⟩ := tup_at (ds := [d1, d2]) du
    have e : decide (V.ref l = V.non) = false := by simp
    rw [e]; exact qf nm H1 s1
end
end K31

set_option maxRecDepth 100000
set_option maxHeartbeats 4000000
namespace K31
open PySem PySem.Spec PyProof.Rows L2 Kh
section
variable {P : Program} {w : World} {K : PySem.W.Frag} {mg : Str → Option Value} {base : Heap} {a : Nat → Addr} {fd : Nat → FuncData} {C : Addr} {tk : Nat → Tok}
def eRM (x : List (List Nat) × PyData) : List PyData := [nLL x.1, x.2]
end
end K31

set_option maxRecDepth 100000
set_option maxHeartbeats 4000000
namespace K31
open PySem PySem.Spec PyProof.Rows L2 Kh
/-! what is drawn in a comprehension -/
section
variable {K : PySem.W.Frag} {S : Addr → Prop} {p : Addr} {H1 : Hp} {σ : L2.St} {te : TE} {sl : Nat} {vs : List Nat} {Qd : VK} {J : It} {n : Nat} {G : Hp → Prop} {Y : Nat → Hp → V → Hp → Prop}
theorem lc_pot0 {α : Type} (f : α → PyData) (Xp : Nat → V → (Addr → Prop) → Hp → Prop) (Good : Nat → α → Prop) (hS : S p) (kn : Kn S H1) (hp : PotAt H1 p) (w : Walk J n G Y) (hG : ∀ H', SameBut p H1 H' → G H') (hn : n ≤ 1000) (hw : ∀ x, wipe ((wipe σ vs).set sl (some x)) vs = wipe σ vs)
    (hY : ∀ D i H x H', H1 D = none → i < n → SameBut p H1 H → Y i H x H' → H' = H ∧ Xp i x (plus S D) H)
    (body : ∀ j x H S', j < n → SameBut p H1 H → PotAt H p → Kn S' H → S' p → Xp j x S' H → ∀ Q : VK, (∀ y H' t, SameBut p H H' → PotAt H' p → Good j t → Dp K (off S' H') y (f t) → Q y H') → te ((wipe σ vs).set sl (some x)) H Q)
    (done : ∀ D H (ys : List V) (ts : List α), SameBut p H1 H → PotAt H p → ts.length = n → (∀ j t, ts[j]? = some t → Good j t) → H D = some (.lst ys) → Dp K (off S H) (.ref D) (.list (ts.map f)) → Qd (.ref D) H) :
    ∀ D, H1 D = none → ∃ W : Nat → Nat → Hp → Prop, (∃ m, W 0 m (upd H1 D (.lst []))) ∧ ∀ i m H, W i m H →
      (J.stop i H ∧ Qd (.ref D) H) ∨ (J.go i H ∧ ∃ Nx : Hp → Prop, (∀ H', Nx H' → ∃ m', m' < m ∧ W (i + 1) m' H') ∧ ∀ x H', J.yld i H x H' → gName sl x (wipe σ vs) H' fun σ2 H2 => wipe σ2 vs = wipe σ vs ∧ tYes σ2 H2 fun b H3 =>
        if b = true then te σ2 H3 fun y H4 => ∃ acc, H4 D = some (.lst acc) ∧ acc.length < sizeLine ∧ Nx (upd H4 D (.lst (acc ++ [y]))) else Nx H3) := by
  intro D hD
  have Dp' : D ≠ p := fun e => by subst e; exact hp.some hD
  refine lc_it (Qd := Qd (.ref D)) w (fun i H' => ∃ (ys : List V) (ts : List α), ts.length = i ∧ (∀ j t, ts[j]? = some t → Good j t) ∧ DpAll K (off (plus S D) H') ys (ts.map f) ∧ SameBut p H1 H' ∧ PotAt H' p ∧ H' D = some (.lst ys)) ⟨[], [], rfl, fun j t h => by simp at h, .nil, sbut (same_new hD), hp.same (same_new hD), upd_same⟩ (fun i H _ ⟨_, _, _, _, _, s, _⟩ => hG H s) ?_ ?_
  · rintro i x H H' hi ⟨ys, ts, hl, good, da, sb, pot, hd⟩ y
    obtain ⟨rfl, xp⟩ := hY D i H x H' hD hi sb y
    have knH : Kn (plus S D) H' := (kn_bt kn sb pot.some).plus (some_ne hd)
    refine ⟨hw x, t_yes (body i x H' (plus S D) hi sb pot knH (.inl hS) xp _ fun z H3 t s3 pot3 gt dz => ?_)⟩
    have hd3 := s3 _ _ Dp' hd
    have hl2 := dpa_len da
    rw [List.length_map] at hl2
    refine ⟨ys, hd3, Nat.lt_of_le_of_lt (show ys.length ≤ 100000 by omega) (by decide), ys ++ [z], ts ++ [t], by simp [hl], ?_, ?_, ?_, ?_, upd_same⟩
    · intro j u hj
      by_cases c : j < ts.length
      · rw [List.getElem?_append_left c] at hj
        exact good j u hj
      · rw [List.getElem?_append_right (by omega)] at hj
        have e : j - ts.length = 0 := by
          have := (List.getElem?_eq_some_iff.mp hj).1
          simpa using this
        rw [e] at hj
        cases hj
        rw [show j = i by omega]; exact gt
    · rw [off_mut (show plus S D D from .inr rfl), List.map_append]
      exact dpa_app (dpa_same (off_bt (.inl hS) s3) _ _ da) (.cons dz .nil)
    · exact fun b o n h => by rw [upd_ne (ne_of_none h hD)]; exact s3 b o n (sb b o n h)
    · obtain ⟨x, y, h, hy⟩ := pot3
      exact ⟨x, y, by rw [upd_ne (Ne.symm Dp')]; exact h, hy⟩
  · rintro H ⟨ys, ts, hl, good, da, sb, pot, hd⟩
    exact done D H ys ts sb pot hl good hd (dp_lst (kn.new hD) hd (dpa_same off_fin _ _ da))
end
theorem lc_pot {α : Type} (f : α → PyData) {K : PySem.W.Frag} {S : Addr → Prop} {p : Addr} {H : Hp} {σ : L2.St} {t te : TE} {sl : Nat} {vs : List Nat} {Q : VK} (Pd : List PyData → Prop) (Good : PyData → α → Prop) (hS : S p) (kn : Kn S H)
    (hev : ∀ Q : VK, (∀ u H1 ds, SameBut p H H1 → PotAt H1 p → Pd ds → Dp K (off S H1) u (.list ds) → Q u H1) → t σ H Q) (hn : ∀ ds, Pd ds → ds.length ≤ 1000) (hw : ∀ x, wipe ((wipe σ vs).set sl (some x)) vs = wipe σ vs)
    (body : ∀ x d H1 S', SameBut p H H1 → PotAt H1 p → Kn S' H1 → S' p → Dp K (off S' H1) x d → (∃ ds, Pd ds ∧ d ∈ ds) → ∀ Q : VK, (∀ y H' t, SameBut p H1 H' → PotAt H' p → Good d t → Dp K (off S' H') y (f t) → Q y H') → te ((wipe σ vs).set sl (some x)) H1 Q)
    (done : ∀ D H1 (ds : List PyData) (ts : List α), SameBut p H H1 → PotAt H1 p → Pd ds → ts.length = ds.length → (∀ (j : Nat) d t, ds[j]? = some d → ts[j]? = some t → Good d t) → Dp K (off S H1) (.ref D) (.list (ts.map f)) → Q (.ref D) H1) :
    tLc (fun σ H R => iList K t σ H R ∨ iTup K t σ H R) (gName sl) tYes te vs σ H Q := by
  refine .inl (hev _ fun u H1 ds s1 pot pd du => ?_)
  obtain ⟨ra, xs, rfl, hsq, ha⟩ := list_at du
  have ln := dpa_len ha
  have kn1 := kn_bt kn s1 pot.some
  refine ⟨ra, rfl, ⟨xs, off_sub.seq hsq⟩, ?_⟩
  refine lc_pot0 f (K := K) (n := xs.length) (G := fun H' => SqL K H' ra xs) (Y := YAt xs) (fun i x S' H' => ∃ d, ds[i]? = some d ∧ Dp K (off S' H') x d) (fun j t => ∃ d, ds[j]? = some d ∧ Good d t) hS kn1 pot walk_list (fun H' sb => (off_keep hS sb).seq hsq) (by rw [ln]; exact hn ds pd) hw (fun D i H2 x H3 hD hi sb y => ⟨y.1, ?_⟩) (fun j x H2 S' hj sb pot2 kn2 hS' xp Q q => ?_) (fun D H2 ys ts sb pot2 hl good hd hD => ?_)
  · obtain ⟨d, dj, dx⟩ := dpa_at ha y.2
    exact ⟨d, dj, dp_same (off_plusB hS hD sb) _ _ dx⟩
  · obtain ⟨d, dj, dx⟩ := xp
    exact body x d H2 S' (sb_trans s1 sb) pot2 kn2 hS' dx ⟨ds, pd, List.mem_of_getElem? dj⟩ Q fun y H' t s' pt g dy => q y H' t s' pt ⟨d, dj, g⟩ dy
  · refine done D H2 ds ts (sb_trans s1 sb) pot2 pd (by rw [hl, ln]) (fun j d t hj ht => ?_) hD
    obtain ⟨d', hd', g⟩ := good j t ht
    rw [hj] at hd'; cases hd'; exact g
theorem r_rng {ta : TA} {σ : L2.St} {H : Hp} {R : It → Hp → Prop} (h : ta σ H fun vs H1 => ∃ j : Int, vs = [.int j] ∧ -(2 ^ 62) ≤ j ∧ j < 2 ^ 62 ∧ R (Itr 0 j.toNat) H1) : iRng1 ta σ H R := h
theorem lc_potR {α : Type} (f : α → PyData) {K : PySem.W.Frag} {S : Addr → Prop} {p : Addr} {H : Hp} {σ : L2.St} {ta : TA} {te : TE} {sl : Nat} {vs : List Nat} {Q : VK} (Pn : Nat → Prop) (Xp : V → (Addr → Prop) → Hp → Prop) (Good : α → Prop) (hS : S p) (kn : Kn S H)
    (hev : ∀ q : List V → Hp → Prop, (∀ H1 (n : Nat), SameBut p H H1 → PotAt H1 p → Pn n → q [.int (n : Nat)] H1) → ta σ H q) (hn : ∀ n, Pn n → n ≤ 1000) (hw : ∀ x, wipe ((wipe σ vs).set sl (some x)) vs = wipe σ vs)
    (hX : ∀ D H1 x, H D = none → SameBut p H H1 → Xp x (plus S D) H1)
    (body : ∀ x H1 S', SameBut p H H1 → PotAt H1 p → Kn S' H1 → S' p → Xp x S' H1 → ∀ Q : VK, (∀ y H' t, SameBut p H1 H' → PotAt H' p → Good t → Dp K (off S' H') y (f t) → Q y H') → te ((wipe σ vs).set sl (some x)) H1 Q)
    (done : ∀ D H1 (n : Nat) (ts : List α), SameBut p H H1 → PotAt H1 p → Pn n → ts.length = n → (∀ t ∈ ts, Good t) → Dp K (off S H1) (.ref D) (.list (ts.map f)) → Q (.ref D) H1) :
    tLc (iRng1 ta) (gName sl) tYes te vs σ H Q := by
  refine hev _ fun H1 n s1 pot pn => ⟨(n : Nat), rfl, by have := hn n pn; omega, by have := hn n pn; omega, ?_⟩
  have kn1 := kn_bt kn s1 pot.some
  refine lc_pot0 f (K := K) (n := n) (G := fun _ => True) (Y := YFn fun i => .int (0 + i)) (fun i x S' H' => Xp x S' H') (fun j t => Good t) hS kn1 pot walk_range (fun _ _ => trivial) (hn n pn) hw (fun D i H2 x H3 hD hi sb y => ⟨y.1, ?_⟩) (fun j x H2 S' hj sb pot2 kn2 hS' xp Q q => body x H2 S' (sb_trans s1 sb) pot2 kn2 hS' xp Q q) (fun D H2 ys ts sb pot2 hl good hd hD => ?_)
  · exact hX D H2 x (by
      by_cases e : D = p
      · subst e; exact (pot.some hD).elim
      · cases h : H D with
        | none => rfl
        | some o => rw [s1 D o e h] at hD; cases hD) (sb_trans s1 sb)
  · refine done D H2 n ts (sb_trans s1 sb) pot2 pn hl (fun t ht => ?_) hD
    obtain ⟨j, hj⟩ := List.mem_iff_getElem?.mp ht
    exact good j t hj
end K31

set_option maxRecDepth 100000
set_option maxHeartbeats 4000000
namespace K31
open PySem PySem.Spec PyProof.Rows L2 Kh
theorem perm_map {α β : Type} {f : α → β} : ∀ {es : List β} {ms : List α}, es.Perm (ms.map f) → ∃ l : List α, l.Perm ms ∧ es = l.map f
  | [], ms, h => by
    have := h.length_eq
    rw [List.length_map] at this
    exact ⟨[], by rw [List.eq_nil_of_length_eq_zero this.symm], rfl⟩
  | e :: es, ms, h => by
    have he : e ∈ ms.map f := h.mem_iff.mp List.mem_cons_self
    obtain ⟨m, hm, rfl⟩ := List.mem_map.mp he
    obtain ⟨a, b, rfl⟩ := List.append_of_mem hm
    have p1 : (a ++ m :: b).Perm (m :: (a ++ b)) := List.perm_middle
    have p2 : (f m :: es).Perm (f m :: (a ++ b).map f) := h.trans (by have := p1.map f; rwa [List.map_cons] at this)
    obtain ⟨l, pl, rfl⟩ := perm_map (List.Perm.cons_inv p2)
    exact ⟨m :: l, (pl.cons m).trans p1.symm, rfl⟩
section
variable {P : Program} {w : World} {K : PySem.W.Frag} {mg : Str → Option Value} {base : Heap} {a : Nat → Addr} {fd : Nat → FuncData} {C : Addr} {tk : Nat → Tok}
theorem r_rng1 {ta : TA} {σ : L2.St} {H : Hp} {R : It → Hp → Prop} (h : ta σ H fun vs H1 => ∃ j : Int, vs = [.int j] ∧ -(2 ^ 62) ≤ j ∧ j < 2 ^ 62 ∧ R (Itr 0 j.toNat) H1) : iRng1 ta σ H R := h
/-- mixed whole numbers -/
theorem mix_nums {S : Addr → Prop} {p : Addr} {v : V} {ns : List Nat} {H : Hp} {Q : VK} (kn : Kn S H) (hS : S p) (pot : PotAt H p) (hd : Dp K (off S H) v (nL ns)) (few : ns.length ≤ 100)
    (q : ∀ u H' ms, SameBut p H H' → PotAt H' p → ms.Perm ns → Dp K (off S H') u (nL ms) → Q u H') : spMixed K [.ref p, v] H Q E0 :=
  ⟨S, p, v, ns.map nD, rfl, kn, hS, pot, hd, fun d hd' => shd_nums d hd', by rw [List.length_map]; exact few, fun u H' es sb pt pm du => by
    obtain ⟨l, pl, rfl⟩ := perm_map pm
    exact q u H' l sb pt pl du⟩
end
end K31

set_option maxRecDepth 100000
set_option maxHeartbeats 4000000
namespace K31
open PySem PySem.Spec PyProof.Rows L2 Kh
theorem k_notInD {X : Cx} {K : PySem.W.Frag} {k : Nat} (hr : Room k X.A) (h : X.K = K := by rfl) : OpR X (compareOp .NotIn) (rNotInD K) := by subst h; exact op_notInD (by have := hr.un; omega)
theorem rng_filt (p : Nat → Bool) (i : Nat) : (List.range (i + 1)).filter p = (List.range i).filter p ++ (if p i = true then [i] else []) := by
  rw [List.range_succ, List.filter_append]
  congr 1
  cases q : p i <;> simp [q]
/-- [x for i, x in enumerate(t) if ..] -/
theorem lc_enum {K : PySem.W.Frag} {S : Addr → Prop} {H : Hp} {σ : L2.St} {ta : TA} {tt : TT} {s1 s2 : Nat} {vs : List Nat} {Q : VK} (ds : List PyData) (p : Nat → Bool) (kn : Kn S H)
    (hev : ∀ q : List V → Hp → Prop, (∀ u H1, Same H H1 → Dp K (off S H1) u (.list ds) → q [u] H1) → ta σ H q) (hn : ds.length ≤ 1000)
    (hw : ∀ x y, wipe (((wipe σ vs).set s1 (some x)).set s2 (some y)) vs = wipe σ vs) (hg : ∀ x y, (((wipe σ vs).set s1 (some x)).set s2 (some y))[s2]? = some (some y))
    (test : ∀ (i : Nat) d x H1 S', ds[i]? = some d → Same H H1 → Kn S' H1 → Dp K (off S' H1) x d → (∀ a, S a → S' a) → Same (off S H) (off S' H1) → ∀ Q : Bool → Hp → Prop, (∀ H', Same H1 H' → Q (p i) H') → tt (((wipe σ vs).set s1 (some (.int (i : Nat)))).set s2 (some x)) H1 Q)
    (done : ∀ D H1, H D = none → Same H H1 → Dp K (off S H1) (.ref D) (.list (((List.range ds.length).filter p).map fun i => ds.getD i .none)) → Q (.ref D) H1) :
    tLc (iEnum K ta) (gTup K 2 (gCons (gName s1) (gCons (gName s2) gNil))) tt (tVar s2) vs σ H Q := by
  refine hev _ fun u H1 s du => ?_
  obtain ⟨ra, xs, rfl, hsq, ha⟩ := list_at du
  have ln := dpa_len ha
  have kn1 := kn.same s
  refine ⟨ra, xs, rfl, off_sub.seq hsq, fun D hD => ?_⟩
  refine wlk (walk_enum (K := K) (a := ra) (xs := xs)) (fun x H' Nx => gTup K 2 (gCons (gName s1) (gCons (gName s2) gNil)) x (wipe σ vs) H' fun σ2 H2 => wipe σ2 vs = wipe σ vs ∧ tt σ2 H2 fun b H3 => if b = true then tVar s2 σ2 H3 fun y H4 => ∃ acc, H4 D = some (.lst acc) ∧ acc.length < sizeLine ∧ Nx (upd H4 D (.lst (acc ++ [y]))) else Nx H3)
    (fun i H' => ∃ ys, DpAll K (off (plus S D) H') ys (((List.range i).filter p).map fun i => ds.getD i .none) ∧ Same H1 H' ∧ H' D = some (.lst ys)) ⟨[], .nil, same_new hD, upd_same⟩ (fun i H' _ ⟨_, _, z, _⟩ => (off_sub.trans z).seq hsq) ?_ ?_
  · rintro i x H2 H3 hi ⟨ys, py, z, hd⟩ ⟨T0, x1, y1, rfl, hT, rfl, hx, hy⟩
    cases hx
    obtain ⟨d, dj, dy⟩ := dpa_at ha hy
    have sT := same_new (o := HO.tup [V.int ((i : Nat) : Int), y1]) hT
    have hd3 := sT _ _ hd
    have ht3 : SqT K (upd H2 T0 (.tup [V.int ((i : Nat) : Int), y1])) T0 [V.int ((i : Nat) : Int), y1] := sqT upd_same
    generalize upd H2 T0 (.tup [V.int ((i : Nat) : Int), y1]) = H3 at *
    have z3 := z.trans sT
    refine ⟨T0, [_, y1], rfl, ht3, rfl, _, [y1], rfl, y1, [], rfl, rfl, hw _ _, ?_⟩
    refine test i d y1 H3 (plus S D) dj (s.trans z3) ((kn1.same z3).plus (some_ne hd3)) (dp_same (off_plus hD z3) _ _ dy) (fun _ h => .inl h) ((off_same s).trans (off_plus hD z3)) _ fun H4 s4 => ?_
    have hd4 := s4 _ _ hd3
    have z4 := z3.trans s4
    have ey : ds.getD i .none = d := by rw [List.getD_eq_getElem?_getD, dj]; rfl
    have py4 := dpa_same (off_same (sT.trans s4)) _ _ py
    have lp := dpa_len py
    have lf := List.length_filter_le p (List.range i)
    rw [List.length_map] at lp
    rw [List.length_range] at lf
    cases hp : p i with
    | false =>
      refine iteF ⟨ys, ?_, z4, hd4⟩
      rw [rng_filt, hp]
      simpa using py4
    | true =>
      refine iteT (t_var (hg _ _) ⟨ys, hd4, Nat.lt_of_le_of_lt (show ys.length ≤ 1000 by omega) (by decide), ys ++ [y1], ?_, smut z4 hD, upd_same⟩)
      rw [off_mut (show plus S D D from .inr rfl), rng_filt, hp, List.map_append]
      refine dpa_app py4 (.cons ?_ .nil)
      show Dp K _ y1 (ds.getD i .none)
      rw [ey]
      exact dp_same (off_plus hD z4) _ _ dy
  · rintro H2 ⟨ys, py, z, hd⟩
    rw [ln] at py
    exact done D H2 (s.free hD) (s.trans z) (dp_lst (kn1.new hD) hd (dpa_same off_fin _ _ py))
/-! lots -/
/-- a lot of spots below 4, told rising -/
structure Lt (l : List Nat) : Prop where
  rise : l.Pairwise (· < ·)
  four : ∀ n ∈ l, n < 4
theorem Lt.eight {l : List Nat} (h : Lt l) : ∀ n ∈ l, n < 8 := fun n hn => by have := h.four n hn; omega
theorem rise_one : ∀ {l m : List Nat}, l.Pairwise (· < ·) → m.Pairwise (· < ·) → (∀ n, n ∈ l ↔ n ∈ m) → l = m
  | [], m, _, _, h => by
    cases m with
    | nil => rfl
    | cons x m => exact absurd ((h x).mpr List.mem_cons_self) (by simp)
  | x :: l, [], _, _, h => absurd ((h x).mp List.mem_cons_self) (by simp)
  | x :: l, y :: m, h1, h2, h => by
    have p1 := List.pairwise_cons.mp h1
    have p2 := List.pairwise_cons.mp h2
    have e : x = y := by
      rcases List.mem_cons.mp ((h x).mp List.mem_cons_self) with e | hx
      · exact e
      · rcases List.mem_cons.mp ((h y).mpr List.mem_cons_self) with e | hy
        · exact e.symm
        · have := p1.1 y hy; have := p2.1 x hx; omega
    subst e
    rw [rise_one p1.2 p2.2 fun n => by
      constructor
      · intro hn
        rcases List.mem_cons.mp ((h n).mp (List.mem_cons_of_mem _ hn)) with e | q
        · have := p1.1 n hn; omega
        · exact q
      · intro hn
        rcases List.mem_cons.mp ((h n).mpr (List.mem_cons_of_mem _ hn)) with e | q
        · have := p2.1 n hn; omega
        · exact q]
def un (l m : List Nat) : List Nat := uq (l ++ m)
theorem mem_un {l m : List Nat} (hl : ∀ n ∈ l, n < 8) (hm : ∀ n ∈ m, n < 8) {n : Nat} : n ∈ un l m ↔ n ∈ l ∨ n ∈ m := by
  unfold un
  rw [uq_mem fun n hn => (List.mem_append.mp hn).elim (hl n) (hm n), List.mem_append]
theorem lt_uq {l : List Nat} (h : ∀ n ∈ l, n < 4) : Lt (uq l) := ⟨uq_rise l, fun n hn => h n ((uq_mem fun n hn => by have := h n hn; omega).mp hn)⟩
theorem lt_un {l m : List Nat} (hl : Lt l) (hm : Lt m) : Lt (un l m) := lt_uq fun n hn => (List.mem_append.mp hn).elim (hl.four n) (hm.four n)
theorem lt_eq {l m : List Nat} (hl : Lt l) (hm : Lt m) (h : ∀ n, n ∈ l ↔ n ∈ m) : l = m := rise_one hl.rise hm.rise h
/-- lots of which any two put together are one of them -/
structure Lots (L : List (List Nat)) : Prop where
  lt : ∀ l ∈ L, Lt l
  cl : ∀ l ∈ L, ∀ m ∈ L, un l m ∈ L
  few : L.length ≤ 7
  nd : L.Nodup
def more (L : List (List Nat)) (f : List Nat) : List (List Nat) := f :: L.map fun l => un l f
theorem more_lt {L : List (List Nat)} {f : List Nat} (h : Lots L) (hf : Lt f) : ∀ l ∈ more L f, Lt l := fun l hl => by
  rcases List.mem_cons.mp hl with rfl | hl
  · exact hf
  · obtain ⟨m, hm, rfl⟩ := List.mem_map.mp hl
    exact lt_un (h.lt m hm) hf
theorem lots_more {L M : List (List Nat)} {f : List Nat} (h : Lots L) (hf : Lt f) (hM : ∀ l, l ∈ M ↔ l ∈ L ∨ l ∈ more L f) (l7 : M.length ≤ 7) (hnd : M.Nodup) : Lots M where
  nd := hnd
  lt := fun l hl => ((hM l).mp hl).elim (h.lt l) (more_lt h hf l)
  few := l7
  cl := by
    have inM : ∀ l, Lt l → (∃ w, (w ∈ L ∨ w ∈ more L f) ∧ Lt w ∧ ∀ n, n ∈ w ↔ n ∈ l) → l ∈ M := fun l hl ⟨w, hw, lw, e⟩ => by
      rw [← lt_eq lw hl e]; exact (hM w).mpr hw
    have f8 := hf.eight
    intro l hl m hm
    have ll : Lt l := ((hM l).mp hl).elim (h.lt l) (more_lt h hf l)
    have lm : Lt m := ((hM m).mp hm).elim (h.lt m) (more_lt h hf m)
    refine inM _ (lt_un ll lm) ?_
    have eu : ∀ {n}, n ∈ un l m ↔ n ∈ l ∨ n ∈ m := mem_un ll.eight lm.eight
    have mf : ∀ z ∈ L, un z f ∈ more L f := fun z hz => List.mem_cons_of_mem _ (List.mem_map.mpr ⟨z, hz, rfl⟩)
    have ez : ∀ z ∈ L, ∀ {n}, n ∈ un z f ↔ n ∈ z ∨ n ∈ f := fun z hz => mem_un (h.lt z hz).eight f8
    rcases (hM l).mp hl with al | bl
    · rcases (hM m).mp hm with am | bm
      · exact ⟨un l m, .inl (h.cl l al m am), lt_un ll lm, fun n => Iff.rfl⟩
      · rcases List.mem_cons.mp bm with rfl | bm
        · exact ⟨un l m, .inr (mf l al), lt_un ll lm, fun n => Iff.rfl⟩
        · obtain ⟨z, hz, rfl⟩ := List.mem_map.mp bm
          have hc := h.cl l al z hz
          refine ⟨un (un l z) f, .inr (mf _ hc), lt_un (h.lt _ hc) hf, fun n => ?_⟩
          rw [ez _ hc, eu, ez z hz, mem_un ll.eight (h.lt z hz).eight, or_assoc]
    · rcases List.mem_cons.mp bl with rfl | bl
      · rcases (hM m).mp hm with am | bm
        · refine ⟨un m l, .inr (mf m am), lt_un lm ll, fun n => ?_⟩
          rw [ez m am, eu, or_comm]
        · rcases List.mem_cons.mp bm with rfl | bm
          · exact ⟨m, .inr List.mem_cons_self, lm, fun n => by rw [eu, or_self]⟩
          · obtain ⟨z, hz, rfl⟩ := List.mem_map.mp bm
            refine ⟨un z l, .inr (mf z hz), lt_un (h.lt z hz) hf, fun n => ?_⟩
            rw [eu, ez z hz]
            exact ⟨fun q => .inr q, fun q => q.elim (fun q => .inr q) id⟩
      · obtain ⟨y, hy, rfl⟩ := List.mem_map.mp bl
        rcases (hM m).mp hm with am | bm
        · have hc := h.cl y hy m am
          refine ⟨un (un y m) f, .inr (mf _ hc), lt_un (h.lt _ hc) hf, fun n => ?_⟩
          rw [ez _ hc, eu, ez y hy, mem_un (h.lt y hy).eight lm.eight]
          constructor
          · rintro ((q | q) | q)
            · exact .inl (.inl q)
            · exact .inr q
            · exact .inl (.inr q)
          · rintro ((q | q) | q)
            · exact .inl (.inl q)
            · exact .inr q
            · exact .inl (.inr q)
        · rcases List.mem_cons.mp bm with rfl | bm
          · refine ⟨un y m, .inr (mf y hy), lt_un (h.lt y hy) hf, fun n => ?_⟩
            rw [eu, ez y hy]
            exact ⟨fun q => .inl q, fun q => q.elim id fun q => .inr q⟩
          · obtain ⟨z, hz, rfl⟩ := List.mem_map.mp bm
            have hc := h.cl y hy z hz
            refine ⟨un (un y z) f, .inr (mf _ hc), lt_un (h.lt _ hc) hf, fun n => ?_⟩
            rw [ez _ hc, eu, ez y hy, ez z hz, mem_un (h.lt y hy).eight (h.lt z hz).eight]
            constructor
            · rintro ((q | q) | q)
              · exact .inl (.inl q)
              · exact .inr (.inl q)
              · exact .inl (.inr q)
            · rintro ((q | q) | (q | q))
              · exact .inl (.inl q)
              · exact .inr q
              · exact .inl (.inr q)
              · exact .inr q
end K31

set_option maxRecDepth 100000
set_option maxHeartbeats 4000000
namespace K31
open PySem PySem.Spec PyProof.Rows L2 Kh
theorem any_nL {l : List Nat} : ∀ L : List (List Nat), ((L.map nL).any fun z => PyData.eqv z (nL l)) = decide (l ∈ L)
  | [] => rfl
  | m :: L => by
    rw [List.map_cons, List.any_cons, any_nL L, eqv_nums]
    by_cases h : m = l
    · subst h; simp
    · have : ¬ l = m := fun e => h e.symm
      by_cases h2 : l ∈ L <;> simp [h, this, h2]
theorem first_at {l : List Nat} : ∀ {M : List (List Nat)}, l ∈ M → ∃ i, i < M.length ∧ M[i]? = some l ∧ l ∉ M.take i
  | [], h => by cases h
  | x :: M, h => by
    by_cases e : l = x
    · subst e; exact ⟨0, by simp, rfl, by simp⟩
    · rcases List.mem_cons.mp h with h | h
      · exact (e h).elim
      · obtain ⟨i, h1, h2, h3⟩ := first_at h
        refine ⟨i + 1, by simp; omega, by simpa using h2, ?_⟩
        rw [List.take_succ_cons]
        exact fun hm => (List.mem_cons.mp hm).elim e h3
/-- which of the further ones are taken -/
def fits (L M : List (List Nat)) (i : Nat) : Bool := !decide (M.getD i [] ∈ L) && !decide (M.getD i [] ∈ M.take i)
def grown (L M : List (List Nat)) : List (List Nat) := L ++ ((List.range M.length).filter (fits L M)).map fun i => M.getD i []
theorem getD_at {M : List (List Nat)} {i : Nat} {l : List Nat} (h : M[i]? = some l) : M.getD i [] = l := by rw [List.getD_eq_getElem?_getD, h]; rfl
theorem mem_grown {L M : List (List Nat)} {l : List Nat} : l ∈ grown L M ↔ l ∈ L ∨ l ∈ M := by
  unfold grown
  rw [List.mem_append]
  constructor
  · rintro (h | h)
    · exact .inl h
    · obtain ⟨i, hi, rfl⟩ := List.mem_map.mp h
      have := List.mem_range.mp (List.mem_filter.mp hi).1
      have e : M[i]? = some M[i] := List.getElem?_eq_getElem this
      rw [getD_at e]; exact .inr (List.getElem_mem _)
  · rintro (h | h)
    · exact .inl h
    · by_cases hl : l ∈ L
      · exact .inl hl
      · obtain ⟨i, h1, h2, h3⟩ := first_at h
        refine .inr (List.mem_map.mpr ⟨i, List.mem_filter.mpr ⟨List.mem_range.mpr h1, ?_⟩, getD_at h2⟩)
        unfold fits
        rw [getD_at h2, decide_eq_false hl, decide_eq_false h3]; rfl
theorem grown_nd {L M : List (List Nat)} (nd : L.Nodup) : (grown L M).Nodup := by
  have ft : ∀ {i : Nat}, fits L M i = true → M.getD i [] ∉ L ∧ M.getD i [] ∉ M.take i := fun {i} h => by
    unfold fits at h
    rw [Bool.and_eq_true, Bool.not_eq_true', Bool.not_eq_true', decide_eq_false_iff_not, decide_eq_false_iff_not] at h
    exact h
  unfold grown
  rw [List.nodup_append]
  refine ⟨nd, ?_, fun x hx y hy e => ?_⟩
  · unfold List.Nodup
    rw [List.pairwise_map]
    refine List.Pairwise.imp_of_mem (fun {i j} hi hj lt e => ?_) ((List.pairwise_lt_range (n := M.length)).sublist (List.filter_sublist (p := fits L M)))
    have il := List.mem_range.mp (List.mem_filter.mp hi).1
    refine (ft (List.mem_filter.mp hj).2).2 ?_
    rw [← e]
    have ei : M[i]? = some M[i] := List.getElem?_eq_getElem il
    rw [getD_at ei]
    exact List.mem_iff_getElem?.mpr ⟨i, by rw [List.getElem?_take, if_pos lt]; exact ei⟩
  · obtain ⟨i, hi, rfl⟩ := List.mem_map.mp hy
    exact (ft (List.mem_filter.mp hi).2).1 (e ▸ hx)
theorem len_grown (L M : List (List Nat)) : (grown L M).length ≤ L.length + M.length := by
  unfold grown
  rw [List.length_append, List.length_map]
  have := List.length_filter_le (fits L M) (List.range M.length)
  rw [List.length_range] at this
  omega
theorem grown_data (L M : List (List Nat)) : (((List.range (M.map nL).length).filter (fits L M)).map fun i => (M.map nL).getD i .none) = (((List.range M.length).filter (fits L M)).map fun i => M.getD i []).map nL := by
  rw [List.length_map, List.map_map]
  refine List.map_congr_left fun i hi => ?_
  have := List.mem_range.mp (List.mem_filter.mp hi).1
  have e : M[i]? = some M[i] := List.getElem?_eq_getElem this
  show (M.map nL).getD i .none = nL (M.getD i [])
  rw [getD_at e, List.getD_eq_getElem?_getD, List.getElem?_map, e]; rfl
theorem shaped_nLL (L : List (List Nat)) : SeqAt.shaped (.list (L.map nL)) = true := shaped_list fun d hd => by
  obtain ⟨l, _, rfl⟩ := List.mem_map.mp hd
  exact shd_nL l
theorem lt_len {l : List Nat} (h : Lt l) : l.length ≤ 4 := by
  have e : l = (List.range 4).filter fun n => decide (n ∈ l) := rise_one h.rise (List.Pairwise.filter _ List.pairwise_lt_range) fun n => by
    rw [List.mem_filter, List.mem_range, decide_eq_true_iff]
    exact ⟨fun q => ⟨h.four n q, q⟩, fun q => q.2⟩
  rw [e]
  have := List.length_filter_le (fun n => decide (n ∈ l)) (List.range 4)
  rwa [List.length_range] at this
section
variable {P : Program} {w : World} {K : PySem.W.Frag} {mg : Str → Option Value} {base : Heap} {a : Nat → Addr} {fd : Nat → FuncData} {C : Addr} {tk : Nat → Tok}
def spLots (K : PySem.W.Frag) : Sp := fun vs H Q _ => ∃ (S : Addr → Prop) (p : Addr), vs = [.ref p] ∧ Kn S H ∧ S p ∧ PotAt H p ∧
  ∀ u H' L, SameBut p H H' → PotAt H' p → Lots L → 1 ≤ L.length → Dp K (off S H') u (nLL L) → Q u H'
theorem ok__law_lots (T : Txt K mg a fd C tk) : FnOk P w K mg base CX0 3 (a 30) (fd 30) ["_law_pot_here"] (spLots K) := by
  have G__law_draw := ok__law_draw (P := P) (w := w) (base := base) T
  have G__law_mixed := ok__law_mixed (P := P) (w := w) (base := base) T
  refine T.F__law_lots.ok sc__law_lots (fun vs H Q E h => by obtain ⟨_, _, rfl, _⟩ := h; rfl) (fun cdv A outer s H vs Q E hr h => ?_)
  obtain ⟨S, p, rfl, kn, hS, pot, q⟩ := h
  refine ⟨_, (pss_cons (ps_set (i := 1) sc__law_lots.nd rfl (Or.inr rfl) (pe_lst pa_nil))
      (pss_cons (ps_for PassesOwn.never rfl (pi_range1 (by rfl) T.z_range (pa_cons (pe_op op_add pe_int (pe_call G__law_draw (hr.mono (by omega)) (by rfl) T.m__law_draw T.F__law_draw.kp T.b__law_draw .nil pass0 (pa_cons (pv 0) (pa_cons pe_int pa_nil)))) pa_nil)) (pg_name (i := 2) sc__law_lots.nd rfl (Or.inl rfl))
        (pss_cons (ps_set (i := 3) sc__law_lots.nd rfl (Or.inr rfl) (pe_callB (k_sset (w := w) rfl) (by rfl) T.z_sorted (by decide +kernel) (pa_cons (pe_callTy (k_setW (K := K) (w := w) rfl) (by rfl) T.z_set (by decide +kernel) (pa_cons (pe_lc (own := [("_law_more", 4)]) (g := gName 4) (tt := tYes) rfl sc__law_lots.nd (pi_range1 (by rfl) T.z_range (pa_cons (pe_call G__law_draw (hr.mono (by omega)) (by rfl) T.m__law_draw T.F__law_draw.kp T.b__law_draw .nil pass0 (pa_cons (pv 0) (pa_cons pe_int pa_nil))) pa_nil)) (blkOk_by (own := [("_law_more", 4)]) (N := _law_lots_N) (sc := defScope _law_lots_s) (by decide +kernel)) (fun _ _ _ _ _ => (pg_name (i := 4) sc__law_lots.nd rfl (Or.inl rfl))) (fun _ _ _ _ _ => pts_nil) (fun _ _ _ _ _ => (pe_call G__law_draw (hr.mono (by omega)) (by rfl) T.m__law_draw T.F__law_draw.kp T.b__law_draw .nil pass0 (pa_cons (pv 0) (pa_cons pe_int pa_nil))))) pa_nil)) pa_nil)))
        (pss_cons (ps_set (i := 4) sc__law_lots.nd rfl (Or.inr rfl) (pe_op (k_catS (K := K)) (pe_lst (pa_cons (pv 3) pa_nil)) (pe_lc (own := [("_law_one", 6)]) (g := gName 6) (tt := tYes) rfl sc__law_lots.nd (k_pi (K := K) (pv 1)) (blkOk_by (own := [("_law_one", 6)]) (N := _law_lots_N) (sc := defScope _law_lots_s) (by decide +kernel)) (fun _ _ _ _ _ => (pg_name (i := 6) sc__law_lots.nd rfl (Or.inl rfl))) (fun _ _ _ _ _ => pts_nil) (fun _ _ _ _ _ => (pe_callB (k_sset (w := w) rfl) (by rfl) T.z_sorted (by decide +kernel) (pa_cons (pe_callTy (k_setW (K := K) (w := w) rfl) (by rfl) T.z_set (by decide +kernel) (pa_cons (pe_op (k_catS (K := K)) (pv 6) (pv 3)) pa_nil)) pa_nil))))))
        (pss_cons (ps_set (i := 5) sc__law_lots.nd rfl (Or.inl rfl) (pe_op (k_catS (K := K)) (pv 1) (pe_lc (own := [("_law_at", 7), ("_law_one", 6)]) (g := gTup K 2 (gCons (gName 7) (gCons (gName 6) gNil))) (tt := _) rfl sc__law_lots.nd (pi_enum (by rfl) T.z_enumerate (pa_cons (pv 4) pa_nil)) (blkOk_by (own := [("_law_at", 7), ("_law_one", 6)]) (N := _law_lots_N) (sc := defScope _law_lots_s) (by decide +kernel)) (fun _ _ _ _ _ => (pg_tup rfl (pgs_cons (pg_name (i := 7) sc__law_lots.nd rfl (Or.inl rfl)) (pgs_cons (pg_name (i := 6) sc__law_lots.nd rfl (Or.inl rfl)) pgs_nil)))) (fun _ _ _ _ _ => (pts_one (PW.pt (pw_and (pt_cmpR (k_notInD (K := K) hr) (pv 6) (pv 1) (by rfl)) (pw_and1 (pt_cmpR (k_notInD (K := K) hr) (pv 6) (pe_slice (k_sl (K := K)) (pv 4) po_none (po_some (pv 7))) (by rfl))))))) (fun _ _ _ _ _ => (pv 6)))))
        (pss_one (ps_set (i := 1) sc__law_lots.nd rfl (Or.inr rfl) (pe_ifExp (pt_cmpR op_lt (pe_callB (k_len (K := K)) (by rfl) T.z_len (by decide +kernel) (pa_cons (pv 5) pa_nil)) pe_int (nomark _)) (pv 5) (pv 1))))))))
      (pss_one (ps_ret (pe_call G__law_mixed (hr.mono (by omega)) (by rfl) T.m__law_mixed T.F__law_mixed.kp T.b__law_mixed .nil pass0 (pa_cons (pv 0) (pa_cons (pv 1) pa_nil))))))), ?_⟩
  refine s_seq (s_set (t_lst0 fun F0 hF0 => nx_of ?_))
  have s0 := same_new (o := HO.lst []) hF0
  have d0 := dp_newL (K := K) (ds := []) kn hF0 .nil
  have pot0 := pot.same s0
  have kn0 := kn.same s0
  generalize upd H F0 (.lst []) = H0 at *
  refine s_seq ?_
  show iRng1 (tCons _ tNil) _ _ _
  refine r_rng1 (a_cons (t_op (t_c (t_call2 (t_var rfl (t_c ⟨p, 5, rfl, pot0, by decide, by decide, fun d H1 hd sb1 pt1 => ⟨_, _, rfl, rfl, a_nil ⟨1 + (d : Int), rfl, by omega, by omega, ?_⟩⟩⟩))))))
  rw [show (1 + (d : Int)).toNat = 1 + d by omega]
  refine for_it walk_range (fun i σ' H' => ∃ (F : V) (L : List (List Nat)) (x2 x3 x4 x5 x6 x7 : Option V), σ' = [some (.ref p), some F, x2, x3, x4, x5, x6, x7] ∧ Dp K (off S H') F (nLL L) ∧ Lots L ∧ (1 ≤ i → 1 ≤ L.length) ∧ SameBut p H H' ∧ PotAt H' p)
    ⟨_, [], _, _, _, _, _, _, rfl, dp_same (off_bt hS sb1) _ _ d0, ⟨fun l h => (nomatch h), fun l h => (nomatch h), by decide, List.nodup_nil⟩, fun h => by omega, sb_trans (sbut s0) sb1, pt1⟩ (fun _ _ _ _ _ => trivial) ?_ ?_
  · rintro i x0 σ' Ha Hb hi ⟨F, L, x2, x3, x4, x5, x6, x7, rfl, dF, lo, ne, sbH, pt⟩ ⟨rfl, rfl⟩
    have kn1 := kn_bt kn sbH pt.some
    have l7 := lo.few
    refine g_name ?_
    refine s_seq (s_set (t_cb1 (t_cb1 (lc_potR nD (K := K) (Pn := fun n => n ≤ 3) (Xp := fun _ _ _ => True) (Good := fun n => n < 4) hS kn1 (fun q' h' => ?_) (fun n h => by omega) (fun _ => rfl) (fun D H1 x hD sb => trivial) (fun x H1 S' sb pt1 kn1 hS' _ Q' q' => ?_) fun D H2 n ms sb2 pt2 hn hl good dM => ?_))))
    · exact a_cons (t_call2 (t_var rfl (t_c ⟨p, 4, rfl, pt, by decide, by decide, fun d H2 hd sb pt => a_nil (h' H2 d sb pt (by omega))⟩)))
    · exact t_call2 (t_var rfl (t_c ⟨p, 4, rfl, pt1, by decide, by decide, fun d H2 hd sb2 pt2 => q' _ _ d sb2 pt2 hd (.int _)⟩))
    have kn2 := kn_bt kn1 sb2 pt2.some
    have b8 : ∀ n ∈ ms, n < 8 := fun n hn => by have := good n hn; omega
    refine sort_set kn2 dM (by omega) b8 fun f H3 s3 df => nx_of ?_
    have lf : Lt (uq ms) := lt_uq good
    generalize uq ms = fl at *
    have dF3 : Dp K (off S H3) F (nLL L) := dp_same ((off_bt hS sb2).trans (off_same s3)) _ _ dF
    have kn3 := kn2.same s3
    have pt3 := pt2.same s3
    have sb03 := sb_trans (sb_trans sbH sb2) (sbut s3)
    refine s_seq (s_set (t_op (t_lst (a_cons (t_var rfl (a_nil ⟨le1, fun pl hpl => ?_⟩))))))
    have s4 := same_new (o := HO.lst [f]) hpl
    have dl4 := dp_newL (K := K) (ds := [nL fl]) kn3 hpl (.cons df .nil)
    have kn4 := kn3.same s4
    generalize upd H3 pl (.lst [f]) = H4 at *
    have dF4 := dp_same (off_same s4) _ _ dF3
    have df4 := dp_same (off_same s4) _ _ df
    refine lcM false L nL (fun l => nL (un l fl)) kn4 (fun Q q => t_var rfl (q _ _ (Same.refl _) dF4)) (by omega) (fun _ => rfl) (fun l hl' y H5 S5 s5 kn5 dy hS5 ho Q5 q5 => ?_) fun D5 H5 ys hD5 s5 hd5 h5 => ?_
    · have ll := lo.lt l hl'
      have len4 : ∀ {l : List Nat}, Lt l → l.length ≤ 4 := fun {l} h => lt_len h
      refine t_cb1 (t_cb1 (t_op (t_var rfl (t_var rfl (cat_d (ds := l.map nD) (es := fl.map nD) kn5 dy (dp_same ho _ _ df4) (by rw [List.length_map, List.length_map]; have := len4 ll; have := len4 lf; omega) fun u6 H6 s6 d6 => ?_)))))
      rw [← List.map_append] at d6
      refine sort_set (kn5.same s6) d6 (by rw [List.length_append]; have := len4 ll; have := len4 lf; omega) (fun n hn => (List.mem_append.mp hn).elim (ll.eight n) (lf.eight n)) fun u7 H7 s7 d7 => q5 u7 H7 (s6.trans s7) d7
    refine cat_d (ds := [nL fl]) (es := L.map fun l => nL (un l fl)) (kn4.same s5) (dp_same (off_same s5) _ _ dl4) h5 (by simp; omega) fun M0 H6 s6 d6 => nx_of ?_
    have eM : [nL fl] ++ L.map (fun l => nL (un l fl)) = (more L fl).map nL := by unfold more; rw [List.map_cons, List.map_map]; rfl
    rw [eM] at d6
    have s46 := s5.trans s6
    have kn6 := kn4.same s46
    have dF6 := dp_same (off_same s46) _ _ dF4
    have lM : (more L fl).length = L.length + 1 := by unfold more; simp
    refine s_seq (s_set (t_op (t_var rfl (lc_enum ((more L fl).map nL) (fits L (more L fl)) kn6 (fun q' h' => a_cons (t_var rfl (a_nil (h' _ _ (Same.refl _) d6)))) (by rw [List.length_map, lM]; omega) (fun _ _ => rfl) (fun _ _ => rfl) (fun j d y H7 S7 hj s7 kn7 dy hS7 ho Q7 q7 => ?_) fun D7 H7 hD7 s7 h7 => ?_))))
    · obtain ⟨l, hl2, hm, rfl⟩ := at_map hj
      have dF7 : Dp K (off S7 H7) F (.list (L.map nL)) := dp_same ho _ _ dF6
      have dM7 : Dp K (off S7 H7) M0 (.list ((more L fl).map nL)) := dp_same ho _ _ d6
      have hjl := (List.getElem?_eq_some_iff.mp hl2).1
      have ef : fits L (more L fl) j = (!decide (l ∈ L) && !decide (l ∈ (more L fl).take j)) := by unfold fits; rw [getD_at hl2]
      rw [ef] at q7
      refine b_and (b_test (t_op (t_var rfl (t_var rfl ⟨_, _, dp_same off_sub _ _ dy, dp_same off_sub _ _ dF7, shd_shaped (shd_nL l), shaped_nLL L, ⟨_, rfl, ?_⟩⟩))))
      rw [any_nL]
      by_cases hL : l ∈ L
      · refine ifF (by rw [decide_eq_true hL]; rfl) ?_
        rw [decide_eq_true hL] at q7
        exact q7 _ (Same.refl _)
      · refine ifT (by rw [decide_eq_false hL]; rfl) ?_
        rw [decide_eq_false hL] at q7
        refine b_test (t_op (t_var rfl (t_sl (t_var rfl (o_none (o_some (t_var rfl ⟨_, rfl, sl_take (m := j) (f := nL) kn7 dM7 (by omega) fun u8 H8 s8 d8 => ?_⟩)))))))
        refine ⟨_, _, dp_same (off_sub.trans s8) _ _ dy, dp_same off_sub _ _ d8, shd_shaped (shd_nL l), shaped_nLL _, ⟨_, rfl, ?_⟩⟩
        rw [any_nL]
        have := q7 H8 s8
        simpa using this
    rw [grown_data] at h7
    have dF7 : Dp K (off S H7) F (.list (L.map nL)) := dp_same (off_same s7) _ _ dF6
    refine cat_d (ds := L.map nL) (kn6.same s7) dF7 h7 (by
      rw [List.length_map, List.length_map, List.length_map]
      have := List.length_filter_le (fits L (more L fl)) (List.range (more L fl).length)
      rw [List.length_range] at this
      omega) fun u8 H8 s8 d8 => nx_of ?_
    rw [← List.map_append] at d8
    replace d8 : Dp K (off S H8) u8 (.list ((grown L (more L fl)).map nL)) := d8
    have s78 := s7.trans s8
    have dF8 := dp_same (off_same s8) _ _ dF7
    have s38 := (s4.trans s46).trans s78
    have sb08 := sb_trans sb03 (sbut s38)
    have pt8 := pt3.same s38
    refine s_set (t_if (b_test (t_op (t_cb1 (t_var rfl (len_d off_sub d8 rfl (t_c ⟨_, _, rfl, rfl, ⟨_, rfl, ?_⟩⟩)))))))
    rw [List.length_map]
    by_cases h8 : (grown L (more L fl)).length < 8
    · refine ifT (decide_eq_true (by omega)) (t_var rfl ⟨u8, grown L (more L fl), _, _, _, _, _, _, rfl, d8, lots_more lo lf (fun l => mem_grown) (by omega) (grown_nd lo.nd), fun _ => ?_, sb08, pt8⟩)
      have : fl ∈ grown L (more L fl) := mem_grown.mpr (.inr List.mem_cons_self)
      exact List.length_pos_of_mem this
    · have := len_grown L (more L fl)
      refine ifF (decide_eq_false (by omega)) (t_var rfl ⟨F, L, _, _, _, _, _, _, rfl, dF8, lo, fun _ => by omega, sb08, pt8⟩)
  · rintro σ' H2 ⟨F, L, x2, x3, x4, x5, x6, x7, rfl, dF, lo, ne, sbH, pt⟩
    have kn2 := kn_bt kn sbH pt.some
    have l7 := lo.few
    refine nx_of (s_ret (t_call2 (t_var rfl (t_var rfl ⟨S, p, F, L.map nL, rfl, kn2, hS, pt, dF, fun d hd => by obtain ⟨l, _, rfl⟩ := List.mem_map.mp hd; exact shd_nL l, by rw [List.length_map]; omega, fun u H3 es sb3 pt3 pm du => ?_⟩))))
    obtain ⟨M, pM, rfl⟩ := perm_map pm
    refine q u H3 M (sb_trans sbH sb3) pt3 ⟨fun l hl => lo.lt l (pM.mem_iff.mp hl), fun l hl m hm => pM.mem_iff.mpr (lo.cl l (pM.mem_iff.mp hl) m (pM.mem_iff.mp hm)), by rw [pM.length_eq]; exact l7, pM.nodup_iff.mpr lo.nd⟩ (by rw [pM.length_eq]; exact ne (by omega)) du
end
end K31

set_option maxRecDepth 100000
set_option maxHeartbeats 4000000
namespace K31
open PySem PySem.Spec PyProof.Rows L2 Kh
theorem np_ints {H : Hp} {p : Addr} {m : List Nat} (h : H p = some (.lst (ivs m))) : Np H (.ref p) (nL m) :=
  .lst h (by simp [ivs]) fun i x d h1 h2 => by
    unfold ivs at h1
    rw [List.getElem?_map] at h1 h2
    cases e : m[i]? with
    | none => rw [e] at h1; cases h1
    | some n => rw [e] at h1 h2; cases h1; cases h2; exact .int _
theorem np_list {H : Hp} {v : V} {ds : List PyData} (h : Np H v (.list ds)) : ∃ a xs, v = .ref a ∧ H a = some (.lst xs) ∧ xs.length = ds.length ∧ ∀ (i : Nat) x d, xs[i]? = some x → ds[i]? = some d → Np H x d := by
  cases h with
  | lst h l t => exact ⟨_, _, rfl, h, l, t⟩
theorem np_new {S2 : Addr → Prop} {H : Hp} {p : Addr} {xs : List V} {ds : List PyData} (kn : Kn S2 H) (hp : H p = none) (l : xs.length = ds.length) (t : ∀ (i : Nat) x d, xs[i]? = some x → ds[i]? = some d → Np (off S2 H) x d) : Np (off S2 (upd H p (.lst xs))) (.ref p) (.list ds) :=
  .lst (by rw [off_out (kn.new hp)]; exact upd_same) l fun i x d h1 h2 => (t i x d h1 h2).same (off_same (same_new hp))
/-- a method of a list with a parameter, in a block -/
theorem k_bm {X : Cx} {K : PySem.W.Frag} {o e : Expr} {es : List Expr} {to : TE} {t : TA} {name : Str} {ap cp : Pos} {Ty id : String} {r : V → List V → Hp → VK → Prop} (pa : PlainAttrs Ty) (sl : Slot Ty name id) (ht : typeOf (.builtin id) = pure (.type "method_descriptor")) (hm : MtR X id r) (ho : PE X o to) (ha : PA X (e :: es) t) (h : X.K = K := by rfl)
    (h1 : attributeBase o name X.env (eval o X.env) = eval o X.env := by rfl) (h2 : ((backTo cp (starEach (e :: es) X.env)).all (fun x => !x.1) && (backToKw cp (keywordEach [] X.env)).all (fun x => x.1.isSome) && decide ((e :: es).length + ([] : List Keyword).length + (if ([] : List Keyword).isEmpty then 0 else 1) < 30)) = true := by rfl)
    (h3 : (ap.endLine == cp.line) = true := by rfl) (h4 : starEach (e :: es) X.env = (false, eval e X.env) :: starEach es X.env := by rfl) (h5 : (backTo cp (starEach es X.env)).any (·.1) = false := by rfl) : PE X (.Call (.Attribute o name ap) (e :: es) [] cp) (tBM K Ty r to t) := by
  subst h; exact pe_bm pa sl ht hm ho ha h1 h2 h3 h4 h5
theorem k_indexD {X : Cx} {K : PySem.W.Frag} {k : Nat} (hr : Room k X.A) (h : X.K = K := by rfl) : MtR X "list.index" (rIndexD K) := by subst h; exact mt_indexD (by have := hr.un; omega)
open Classical in
noncomputable def ixL (L : List (List Nat)) (l : List Nat) : Nat := if h : l ∈ L then Classical.choose (first_at h) else 0
theorem ixL_spec {L : List (List Nat)} {l : List Nat} (h : l ∈ L) : ixL L l < L.length ∧ L[ixL L l]? = some l ∧ l ∉ L.take (ixL L l) := by
  unfold ixL
  rw [dif_pos h]
  exact Classical.choose_spec (first_at h)
noncomputable def melting (L : List (List Nat)) : List (List Nat) := L.map fun l => L.map fun m => ixL L (un l m)
theorem tb_melting {L : List (List Nat)} (h : Lots L) (h1 : 1 ≤ L.length) : Tb (melting L) where
  pos := by unfold melting; rw [List.length_map]; exact h1
  few := by unfold melting; rw [List.length_map]; exact h.few
  row := fun r hr => by
    unfold melting at hr ⊢
    obtain ⟨l, _, rfl⟩ := List.mem_map.mp hr
    rw [List.length_map, List.length_map]
  num := fun r hr n hn => by
    unfold melting at hr ⊢
    obtain ⟨l, hl, rfl⟩ := List.mem_map.mp hr
    obtain ⟨m, hm, rfl⟩ := List.mem_map.mp hn
    rw [List.length_map]
    exact (ixL_spec (h.cl l hl m hm)).1
theorem ix_at {L : List (List Nat)} {l : List Nat} {i : Nat} (nd : L.Nodup) (h : L[i]? = some l) : ixL L l = i := by
  obtain ⟨h1, h2, _⟩ := ixL_spec (List.mem_of_getElem? h)
  exact (List.getElem?_inj h1 nd).mp (by rw [h2, h])
theorem at_melting {L : List (List Nat)} {i j : Nat} (hi : i < L.length) (hj : j < L.length) : at_ (melting L) i j = ixL L (un L[i] L[j]) := by
  unfold at_ melting
  have e1 : (L.map fun l => L.map fun m => ixL L (un l m))[i]? = some (L.map fun m => ixL L (un L[i] m)) := by rw [List.getElem?_map, List.getElem?_eq_getElem hi]; rfl
  have e2 : (L.map fun l => L.map fun m => ixL L (un l m)).getD i [] = L.map fun m => ixL L (un L[i] m) := by rw [List.getD_eq_getElem?_getD, e1]; rfl
  rw [e2, List.getD_eq_getElem?_getD, List.getElem?_map, List.getElem?_eq_getElem hj]; rfl
theorem melts_melting {L : List (List Nat)} (h : Lots L) : Melts (melting L) := by
  have ll : (melting L).length = L.length := by unfold melting; rw [List.length_map]
  have lt : ∀ {i : Nat} (hi : i < L.length), Lt L[i] := fun hi => h.lt _ (List.getElem_mem hi)
  have cl : ∀ {i j : Nat} (hi : i < L.length) (hj : j < L.length), un L[i] L[j] ∈ L := fun hi hj => h.cl _ (List.getElem_mem hi) _ (List.getElem_mem hj)
  have back : ∀ {l : List Nat} (hl : l ∈ L), ∃ hk : ixL L l < L.length, L[ixL L l] = l := fun hl => by
    obtain ⟨h1, h2, _⟩ := ixL_spec hl
    exact ⟨h1, (List.getElem?_eq_some_iff.mp h2).2⟩
  refine ⟨fun x hx => ?_, fun x y hx hy => ?_, fun x y z hx hy hz => ?_⟩
  · rw [ll] at hx
    rw [at_melting hx hx]
    have e : un L[x] L[x] = L[x] := lt_eq (lt_un (lt hx) (lt hx)) (lt hx) fun n => by rw [mem_un (lt hx).eight (lt hx).eight, or_self]
    rw [e]
    exact ix_at h.nd (List.getElem?_eq_getElem hx)
  · rw [ll] at hx hy
    rw [at_melting hx hy, at_melting hy hx]
    congr 1
    exact lt_eq (lt_un (lt hx) (lt hy)) (lt_un (lt hy) (lt hx)) fun n => by rw [mem_un (lt hx).eight (lt hy).eight, mem_un (lt hy).eight (lt hx).eight, or_comm]
  · rw [ll] at hx hy hz
    obtain ⟨k1, e1⟩ := back (cl hx hy)
    obtain ⟨k2, e2⟩ := back (cl hy hz)
    rw [at_melting hx hy, at_melting hy hz, at_melting k1 hz, at_melting hx k2, e1, e2]
    congr 1
    have l1 := lt_un (lt hx) (lt hy)
    have l2 := lt_un (lt hy) (lt hz)
    exact lt_eq (lt_un l1 (lt hz)) (lt_un (lt hx) l2) fun n => by rw [mem_un l1.eight (lt hz).eight, mem_un (lt hx).eight l2.eight, mem_un (lt hx).eight (lt hy).eight, mem_un (lt hy).eight (lt hz).eight, or_assoc]
theorem idx_nL {K : PySem.W.Frag} {S : Addr → Prop} {H : Hp} {v y : V} {L : List (List Nat)} {l : List Nat} {Q : VK} (hL : Dp K (off S H) v (nLL L)) (hy : Dp K (off S H) y (nL l)) (hm : l ∈ L) (q : Q (.int (ixL L l : Nat)) H) : rIndexD K v [y] H Q := by
  obtain ⟨a, xs, rfl, hs, ha⟩ := list_at (ds := L.map nL) hL
  obtain ⟨h1, h2, h3⟩ := ixL_spec hm
  refine ⟨a, y, nL l, L.map nL, ixL L l, nL l, rfl, rfl, dp_same off_sub _ _ hL, dp_same off_sub _ _ hy, shaped_nLL L, shd_shaped (shd_nL l), by rw [List.getElem?_map, h2]; rfl, by rw [eqv_nums]; simp, fun m z hm' hz => ?_, q⟩
  rw [List.getElem?_map] at hz
  cases e : L[m]? with
  | none => rw [e] at hz; cases hz
  | some l' =>
    rw [e] at hz
    cases hz
    rw [eqv_nums]
    refine decide_eq_false fun e2 => h3 ?_
    subst e2
    exact List.mem_iff_getElem?.mpr ⟨m, by rw [List.getElem?_take, if_pos hm']; exact e⟩
theorem lc_datNO {R : Hp → V → PyData → Prop} (rp : Rp R) {K : PySem.W.Frag} {S S2 : Addr → Prop} {H1 : Hp} {σ : L2.St} {te : TE} {sl : Nat} {vs : List Nat} {Qd : VK} {J : It} {xs : List V} {ds : List PyData} (f : Nat → PyData) (h12 : ∀ a, S a → S2 a)
    (w : Walk J xs.length (fun H' => Same (off S H1) H') (YAt xs)) (ha : DpAll K (off S H1) xs ds) (kn : Kn S2 H1) (hn : ds.length ≤ 100000) (hw : ∀ x, wipe ((wipe σ vs).set sl (some x)) vs = wipe σ vs)
    (body : ∀ j x d H Sa Sb, ds[j]? = some d → Same H1 H → (∀ a, Sa a → Sb a) → Kn Sb H → Dp K (off Sa H) x d → (∀ a, S2 a → Sb a) → Same (off S H1) (off Sa H) → ∀ Q : VK, (∀ y H', Same H H' → R (off Sb H') y (f j) → Q y H') → te ((wipe σ vs).set sl (some x)) H Q)
    (done : ∀ D H ys, H1 D = none → Same H1 H → H D = some (.lst ys) → R (off S2 H) (.ref D) (.list ((List.range ds.length).map f)) → Qd (.ref D) H) :
    ∀ D, H1 D = none → ∃ W : Nat → Nat → Hp → Prop, (∃ m, W 0 m (upd H1 D (.lst []))) ∧ ∀ i m H, W i m H →
      (J.stop i H ∧ Qd (.ref D) H) ∨ (J.go i H ∧ ∃ Nx : Hp → Prop, (∀ H', Nx H' → ∃ m', m' < m ∧ W (i + 1) m' H') ∧ ∀ x H', J.yld i H x H' → gName sl x (wipe σ vs) H' fun σ2 H2 => wipe σ2 vs = wipe σ vs ∧ tYes σ2 H2 fun b H3 =>
        if b = true then te σ2 H3 fun y H4 => ∃ acc, H4 D = some (.lst acc) ∧ acc.length < sizeLine ∧ Nx (upd H4 D (.lst (acc ++ [y]))) else Nx H3) := by
  intro D hD
  have ln := dpa_len ha
  refine lc_map (Qd := Qd (.ref D)) w (fun j x => xs[j]? = some x) (fun i H x H' _ y => y) (fun j y H => R (off (plus S2 D) H) y (f j)) (fun H s => off_sub.trans s) hD (by omega) hw (fun j y H H' e h => rp.same (off_but e) h) (fun j x H hj xj s hd Q q => ?_) (fun ys H hl py s hd => ?_)
  · obtain ⟨d, dj, dx⟩ := dpa_at ha xj
    exact body j x d H (plus S D) (plus S2 D) dj s (fun a z => z.imp (h12 a) id) ((kn.same s).plus hd) (dp_same (off_plus hD s) _ _ dx) (fun _ h => .inl h) (off_plus hD s) Q q
  · refine done D H ys hD s hd (rp.lst (by rw [off_out (kn.new hD)]; exact hd) (by simp [hl, ln]) fun i v d h1 h2 => rp.same (off_fin (D := D)) ?_)
    have hi : i < ds.length := by
      have := (List.getElem?_eq_some_iff.mp h1).1
      omega
    rw [List.getElem?_map, List.getElem?_range hi] at h2
    cases h2
    exact py i v h1
theorem lc_seqNO {R : Hp → V → PyData → Prop} (rp : Rp R) {K : PySem.W.Frag} {S S2 : Addr → Prop} {H : Hp} {σ : L2.St} {t te : TE} {sl : Nat} {vs : List Nat} {Q : VK} {b : Bool} {ds : List PyData} (f : Nat → PyData) (h12 : ∀ a, S a → S2 a) (kn : Kn S2 H)
    (hev : ∀ Q : VK, (∀ u H1, Same H H1 → Dp K (off S H1) u (sq b ds) → Q u H1) → t σ H Q) (hn : ds.length ≤ 100000) (hw : ∀ x, wipe ((wipe σ vs).set sl (some x)) vs = wipe σ vs)
    (body : ∀ j x d H1 Sa Sb, ds[j]? = some d → Same H H1 → (∀ a, Sa a → Sb a) → Kn Sb H1 → Dp K (off Sa H1) x d → (∀ a, S2 a → Sb a) → Same (off S H) (off Sa H1) → ∀ Q : VK, (∀ y H', Same H1 H' → R (off Sb H') y (f j) → Q y H') → te ((wipe σ vs).set sl (some x)) H1 Q)
    (done : ∀ D H1 ys, H D = none → Same H H1 → H1 D = some (.lst ys) → R (off S2 H1) (.ref D) (.list ((List.range ds.length).map f)) → Q (.ref D) H1) :
    tLc (fun σ H R => iList K t σ H R ∨ iTup K t σ H R) (gName sl) tYes te vs σ H Q :=
  it_any hev fun J xs H1 s ha w => lc_datNO rp f h12 w ha (kn.same s) hn hw (fun j x d H2 Sa Sb dj s2 hab kn2 dx hS ho Q q => body j x d H2 Sa Sb dj (s.trans s2) hab kn2 dx hS ((off_same s).trans ho) Q q)
    fun D H2 ys hD s2 hd h => done D H2 ys (s.free hD) (s.trans s2) hd h
section
variable {P : Program} {w : World} {K : PySem.W.Frag} {mg : Str → Option Value} {base : Heap} {a : Nat → Addr} {fd : Nat → FuncData} {C : Addr} {tk : Nat → Tok}
def spMelting (K : PySem.W.Frag) : Sp := fun vs H Q _ => ∃ (S : Addr → Prop) (p : Addr), vs = [.ref p] ∧ Kn S H ∧ S p ∧ PotAt H p ∧
  ∀ u H1 H' R, SameBut p H H1 → PotAt H1 p → Same H1 H' → Tb R → Melts R → Np (off (old H1) H') u (nLL R) → Q u H'
theorem ok__law_melting (T : Txt K mg a fd C tk) : FnOk P w K mg base CX0 4 (a 31) (fd 31) ["_law_pot_here"] (spMelting K) := by
  have G__law_lots := ok__law_lots (P := P) (w := w) (base := base) T
  refine T.F__law_melting.ok sc__law_melting (fun vs H Q E h => by obtain ⟨_, _, rfl, _⟩ := h; rfl) (fun cdv A outer s H vs Q E hr h => ?_)
  obtain ⟨S, p, rfl, kn, hS, pot, q⟩ := h
  refine ⟨_, (pss_cons (ps_set (i := 1) sc__law_melting.nd rfl (Or.inr rfl) (pe_call G__law_lots (hr.mono (by omega)) (by rfl) T.m__law_lots T.F__law_lots.kp T.b__law_lots .nil pass0 (pa_cons (pv 0) pa_nil)))
      (pss_one (ps_ret (pe_lc (own := [("_law_one", 2)]) (g := gName 2) (tt := tYes) rfl sc__law_melting.nd (k_pi (K := K) (pv 1)) (blkOk_by (own := [("_law_one", 2)]) (N := _law_melting_N) (sc := defScope _law_melting_s) (by decide +kernel)) (fun _ _ _ _ _ => (pg_name (i := 2) sc__law_melting.nd rfl (Or.inr rfl))) (fun _ _ _ _ _ => pts_nil) (fun _ _ _ _ _ => (pe_lc (own := [("_law_other", 3)]) (g := gName 3) (tt := tYes) rfl sc__law_melting.nd (k_pi (K := K) (pv 1)) (show BlkOk _law_melting_N (relS _ (defScope _law_melting_s)) _ [("_law_other", 3)] from blkOk_by (by decide +kernel)) (fun _ _ _ _ _ => (pg_name (i := 3) sc__law_melting.nd rfl (Or.inl rfl))) (fun _ _ _ _ _ => pts_nil) (fun _ _ _ _ _ => (k_bm (K := K) PySem.F.plainAttrs_list PySem.F.slot_list_index PySem.F.type_list_index (k_indexD (K := K) hr) (pv 1) (pa_cons (pe_callB (k_sset (w := w) rfl) (by rfl) T.z_sorted (by decide +kernel) (pa_cons (pe_callTy (k_setW (K := K) (w := w) rfl) (by rfl) T.z_set (by decide +kernel) (pa_cons (pe_op (k_catS (K := K)) (pv 2) (pv 3)) pa_nil)) pa_nil)) pa_nil))))))))), ?_⟩
  refine s_seq (s_set (t_call1 (t_var rfl ⟨S, p, rfl, kn, hS, pot, fun vL H1 L sb1 pt1 lo h1 dL => nx_of ?_⟩)))
  replace dL : Dp K (off S H1) vL (.list (L.map nL)) := dL
  have kn1 := kn_bt kn sb1 pt1.some
  have l7 := lo.few
  refine s_ret (lc_seqNO rp_np (b := false) (ds := L.map nL) (pick L .none fun l => nL (L.map fun m => ixL L (un l m))) (old_of kn1) kn_old (fun Q q => t_var rfl (q _ _ (Same.refl _) dL)) (by rw [List.length_map]; omega) (fun _ => rfl) (fun j y d H2 Sa Sb dj s2 hab kn2 dy hS2 ho2 Q2 q2 => ?_) fun D H2 ys hD s2 hd2 h2 => ?_)
  · obtain ⟨l, hj, hl, rfl⟩ := at_map dj
    have knA : Kn Sa H2 := fun b z => kn2 b (hab b z)
    have dLo : Dp K (off Sa H2) vL (.list (L.map nL)) := dp_same ho2 _ _ dL
    refine lc_seqNO rp_np (b := false) (ds := L.map nL) (pick L .none fun m => nD (ixL L (un l m))) hab kn2 (fun Q q => t_var rfl (q _ _ (Same.refl _) dLo)) (by rw [List.length_map]; omega) (fun _ => rfl) (fun i z d3 H3 Sc Sd di s3 hcd kn3' dz hS3 ho Q3 q3 => ?_) fun D3 H3 ys hD3 s3 hd3 h3 => ?_
    · obtain ⟨m, hi, hm, rfl⟩ := at_map di
      have kn3 : Kn Sc H3 := fun b z => kn3' b (hcd b z)
      have ll := lo.lt l hl
      have lm := lo.lt m hm
      obtain ⟨la, xa, rfl, hsa, _⟩ := list_at (dp_same ho _ _ dLo)
      refine t_bm (t_var rfl ⟨.inl ⟨rfl, xa, off_sub.seq hsa⟩, a_cons (t_cb1 (t_cb1 (t_op (t_var rfl (t_var rfl (cat_d (ds := l.map nD) (es := m.map nD) kn3 (dp_same ho _ _ dy) dz (by rw [List.length_map, List.length_map]; have := lt_len ll; have := lt_len lm; omega) fun u6 H6 s6 d6 => ?_))))))⟩)
      rw [← List.map_append] at d6
      refine sort_set (kn3.same s6) d6 (by rw [List.length_append]; have := lt_len ll; have := lt_len lm; omega) (fun n hn => (List.mem_append.mp hn).elim (ll.eight n) (lm.eight n)) fun u7 H7 s7 d7 => a_nil ?_
      refine idx_nL (dp_same (ho.trans (off_same (s6.trans s7))) _ _ dLo) d7 (lo.cl l hl m hm) (q3 _ _ (s6.trans s7) ?_)
      rw [pick_eq hi]
      exact .int _
    · rw [List.length_map, range_map (l := L) (f := pick L .none fun m => nD (ixL L (un l m))) (g := fun m => nD (ixL L (un l m))) fun i x e => pick_eq e] at h3
      refine q2 _ H3 s3 ?_
      rw [pick_eq hj]
      unfold nL
      rw [List.map_map]
      exact h3
  · rw [List.length_map, range_map (l := L) (f := pick L .none fun l => nL (L.map fun m => ixL L (un l m))) (g := fun l => nL (L.map fun m => ixL L (un l m))) fun i x e => pick_eq e] at h2
    refine q _ H1 H2 (melting L) sb1 pt1 s2 (tb_melting lo h1) (melts_melting lo) ?_
    unfold nLL melting
    rw [List.map_map]
    exact h2
end
end K31

set_option maxRecDepth 100000
set_option maxHeartbeats 4000000
namespace K31
open PySem PySem.Spec PyProof.Rows L2 Kh
theorem at_lt {R : List (List Nat)} (h : Tb R) {i j : Nat} (hi : i < R.length) (hj : j < R.length) : at_ R i j < R.length := (h.at_get hi hj).2
/-- the join of values -/
def jn (R : List (List Nat)) : List Nat → Nat
  | [] => 0
  | v :: r => r.foldl (at_ R) v
def fj (R : List (List Nat)) (l : List Nat) (i : Nat) : Nat := (l.take i).foldl (at_ R) (l.getD 0 0)
theorem fold_lt {R : List (List Nat)} (tb : Tb R) : ∀ (l : List Nat) (v : Nat), v < R.length → (∀ n ∈ l, n < R.length) → l.foldl (at_ R) v < R.length
  | [], v, hv, _ => hv
  | n :: l, v, hv, h => fold_lt tb l _ (at_lt tb hv (h n List.mem_cons_self)) fun m hm => h m (List.mem_cons_of_mem _ hm)
theorem fj_lt {R : List (List Nat)} (tb : Tb R) {l : List Nat} (ne : l ≠ []) (h : ∀ n ∈ l, n < R.length) (i : Nat) : fj R l i < R.length := by
  refine fold_lt tb _ _ ?_ fun n hn => h n (List.mem_of_mem_take hn)
  cases l with
  | nil => exact (ne rfl).elim
  | cons v r => exact h v List.mem_cons_self
theorem fj_step {R : List (List Nat)} {l : List Nat} {i n : Nat} (h : l[i]? = some n) : fj R l (i + 1) = at_ R (fj R l i) n := by
  unfold fj
  rw [take_snoc' h, List.foldl_append]; rfl
theorem fj_all {R : List (List Nat)} (me : Melts R) {l : List Nat} (ne : l ≠ []) (h : ∀ n ∈ l, n < R.length) : fj R l l.length = jn R l := by
  cases l with
  | nil => exact (ne rfl).elim
  | cons v r =>
    unfold fj jn
    rw [List.take_length, List.foldl_cons]
    show r.foldl (at_ R) (at_ R v v) = _
    rw [me.idem v (h v List.mem_cons_self)]
theorem jn_lt {R : List (List Nat)} (tb : Tb R) {l : List Nat} (ne : l ≠ []) (h : ∀ n ∈ l, n < R.length) : jn R l < R.length := by
  cases l with
  | nil => exact (ne rfl).elim
  | cons v r => exact fold_lt tb r v (h v List.mem_cons_self) fun n hn => h n (List.mem_cons_of_mem _ hn)
def dm (R : List (List Nat)) (l : List Nat) (v : Nat) : Bool := decide (0 < l.length) && decide (jn R l = v)
section
variable {P : Program} {w : World} {K : PySem.W.Frag} {mg : Str → Option Value} {base : Heap} {a : Nat → Addr} {fd : Nat → FuncData} {C : Addr} {tk : Nat → Tok}
abbrev spAt (K : PySem.W.Frag) (C : Addr) : Sp := spT K C e2n (fun R x => x.1 < R.length ∧ x.2 < R.length) fun R x => nD (at_ R x.1 x.2)
theorem t_at {S : Addr → Prop} {σ : L2.St} {H : Hp} {R : List (List Nat)} {x : Addr} {k i j n m : Nat} {Q : VK} (kn : Kn S H) (ht : TabAt K C (off S H) R x) (tb : Tb R) (hk : σ[k]? = some (some (.ref x))) (hi : σ[i]? = some (some (.int (n : Nat)))) (hj : σ[j]? = some (some (.int (m : Nat)))) (hn : n < R.length) (hm : m < R.length)
    (q : ∀ H', Same H H' → Q (.int (at_ R n m : Nat)) H') : tMeth C "at" (spAt K C) [] E0 (tVar k) (tCons (tVar i) (tCons (tVar j) tNil)) σ H Q := by
  obtain ⟨dx, v, hx, dv⟩ := id ht
  refine t_meth2 (t_var hk ⟨x, dx, _, rfl, (off_some hx).2, rfl, t_var hi (t_var hj ⟨S, R, x, (n, m), _, rfl, kn, ht, tb, .cons (.int _) (.cons (.int _) .nil), ⟨hn, hm⟩, fun u H' s d => ?_⟩)⟩)
  replace d : Dp K (off S H') u (nD (at_ R n m)) := d
  cases d
  exact q H' s
abbrev spJoined (K : PySem.W.Frag) (C : Addr) : Sp := spT K C (fun x : Bool × List Nat => [sq x.1 (x.2.map nD)]) (fun R x => Melts R ∧ x.2 ≠ [] ∧ (∀ n ∈ x.2, n < R.length) ∧ x.2.length ≤ 1000) fun R x => nD (jn R x.2)
theorem ok_joined (T : Txt K mg a fd C tk) (U : TxC K mg a C) : FnOk P w K mg base CX0 6 (a 15) (fd 15) ["table", "values"] (spJoined K C) := by
  have G_Table_at := ok_Table_at (P := P) (w := w) (base := base) T U
  refine T.F_joined.ok sc_joined (fun vs H Q E h => spT_len (n := 1) (fun _ => rfl) h) (fun cdv A outer s H vs Q E hr h => ?_)
  obtain ⟨S, R, x, ⟨b, l⟩, us, rfl, kn, ht, tb, hd, ⟨me, ne, lt, ln⟩, q⟩ := h
  obtain - | ⟨dl, ⟨⟩⟩ := hd
  rename_i u
  replace dl : Dp K (off S H) u (sq b (l.map nD)) := dl
  replace ne : l ≠ [] := ne
  replace lt : ∀ n ∈ l, n < R.length := lt
  replace ln : l.length ≤ 1000 := ln
  refine ⟨_, (pss_cons (ps_set (i := 2) sc_joined.nd rfl (Or.inl rfl) (pe_ix (k_ix (K := K)) (pv 1) pe_int (fun _ _ => rfl)))
      (pss_cons (ps_for PassesOwn.never rfl (k_pi (K := K) (pv 1)) (pg_name (i := 3) sc_joined.nd rfl (Or.inl rfl))
        (pss_one (ps_set (i := 2) sc_joined.nd rfl (Or.inl rfl) (pe_meth (pv 0) U.cls U.me_at G_Table_at (hr.mono (by omega)) T.b_Table_at .nil pass0 (pa_cons (pv 2) (pa_cons (pv 3) pa_nil))))))
      (pss_one (ps_ret (pv 2))))), ?_⟩
  obtain ⟨v0, r, rfl⟩ : ∃ v r, l = v :: r := by cases l with | nil => exact (ne rfl).elim | cons v r => exact ⟨v, r, rfl⟩
  refine s_seq (s_set (t_op (t_var rfl (t_c (ix_d (i := 0) off_sub dl (by cases b <;> rfl) rfl fun z dz => nx_of ?_)))))
  cases dz
  refine s_seq (forM (S := S) b (v0 :: r) nD kn (fun Q q => t_var rfl (q _ _ (Same.refl _) dl)) fun H1 s1 kn1 => ?_)
  refine ⟨fun i σ' H' => ∃ x3, σ' = [some (.ref x), some u, some (.int (fj R (v0 :: r) i : Nat)), x3] ∧ Same H1 H', ⟨_, rfl, Same.refl _⟩, fun i σ' H' ⟨_, _, s⟩ => off_sub.trans s, ?_, ?_⟩
  · rintro i m y σ' H2 hm hi hmem dy ⟨x3, rfl, s2⟩
    cases dy
    have s12 := s1.trans s2
    refine g_name (s_set (t_at (kn.same s12) (ht.same (off_same s12)) tb rfl rfl rfl (fj_lt tb ne lt i) (lt m hmem) fun H3 s3 => ?_))
    rw [← fj_step hm]
    exact nx_of ⟨_, rfl, s2.trans s3⟩
  · rintro σ' H2 ⟨x3, rfl, s2⟩
    rw [fj_all me ne lt]
    exact nx_of (s_ret (t_var rfl (q _ _ (s1.trans s2) (.int _))))
abbrev spWithin (K : PySem.W.Frag) (C : Addr) : Sp := spT K C e2n (fun R x => x.1 < R.length ∧ x.2 < R.length) fun R x => .bool (decide (at_ R x.1 x.2 = x.2))
theorem ok_is_within (T : Txt K mg a fd C tk) (U : TxC K mg a C) : FnOk P w K mg base CX0 6 (a 16) (fd 16) ["table", "one", "other"] (spWithin K C) := by
  have G_Table_at := ok_Table_at (P := P) (w := w) (base := base) T U
  refine T.F_is_within.ok sc_is_within (fun vs H Q E h => spT_len (n := 2) (fun _ => rfl) h) (fun cdv A outer s H vs Q E hr h => ?_)
  obtain ⟨S, R, x, ⟨i, j⟩, us, rfl, kn, ht, tb, hd, ⟨hi, hj⟩, q⟩ := h
  obtain - | ⟨h1, - | ⟨h2, ⟨⟩⟩⟩ := hd
  cases h1
  cases h2
  refine ⟨_, (pss_one (ps_ret (pe_cmpR op_eq (pe_meth (pv 0) U.cls U.me_at G_Table_at (hr.mono (by omega)) T.b_Table_at .nil pass0 (pa_cons (pv 1) (pa_cons (pv 2) pa_nil))) (pv 2) (nomark _)))), ?_⟩
  refine s_ret (t_op (t_at kn ht tb rfl rfl rfl hi hj fun H1 s1 => t_var rfl ⟨rfl, ?_⟩))
  rw [dec_int]
  exact q _ _ s1 (.bl _)
end
end K31

set_option maxRecDepth 100000
set_option maxHeartbeats 4000000
namespace K31
open PySem PySem.Spec PyProof.Rows L2 Kh
/-- what is told anew by an expression -/
def EvD (K : PySem.W.Frag) (S : Addr → Prop) (H0 : Hp) (σ : L2.St) (te : TE) (d : PyData) : Prop := ∀ H1, Same H0 H1 → ∀ Q : VK, (∀ u H', Same H1 H' → Dp K (off S H') u d → Q u H') → te σ H1 Q
def EvA (K : PySem.W.Frag) (S : Addr → Prop) (H0 : Hp) (σ : L2.St) (ta : TA) (ds : List PyData) : Prop := ∀ H1, Same H0 H1 → ∀ q : List V → Hp → Prop, (∀ us H', Same H1 H' → DpAll K (off S H') us ds → q us H') → ta σ H1 q
section
variable {K : PySem.W.Frag} {S : Addr → Prop} {H0 : Hp} {σ : L2.St}
theorem ev_int (i : Int) : EvD K S H0 σ (tC (.int i)) (.int i) := fun H1 s Q q => t_c (q _ _ (Same.refl _) (.int _))
theorem ev_non : EvD K S H0 σ (tC .non) .none := fun H1 s Q q => t_c (q _ _ (Same.refl _) .non)
theorem ev_str (x : Str) : EvD K S H0 σ (tC (.str x)) (.str x) := fun H1 s Q q => t_c (q _ _ (Same.refl _) (.str _))
theorem ev_var {i : Nat} {v : V} {d : PyData} (hi : σ[i]? = some (some v)) (h : Dp K (off S H0) v d) : EvD K S H0 σ (tVar i) d := fun H1 s Q q => t_var hi (q _ _ (Same.refl _) (dp_same (off_same s) _ _ h))
theorem ea_nil : EvA K S H0 σ tNil [] := fun H1 s q k => a_nil (k _ _ (Same.refl _) .nil)
theorem ea_cons {te : TE} {ta : TA} {d : PyData} {ds : List PyData} (h : EvD K S H0 σ te d) (h2 : EvA K S H0 σ ta ds) : EvA K S H0 σ (tCons te ta) (d :: ds) := fun H1 s q k =>
  a_cons (h H1 s _ fun u H2 s2 d2 => h2 H2 (s.trans s2) _ fun us H3 s3 d3 => k _ _ (s2.trans s3) (.cons (dp_same (off_same s3) _ _ d2) d3))
theorem ev_tup {ta : TA} {ds : List PyData} (kn : Kn S H0) (h : EvA K S H0 σ ta ds) (l : ds.length ≤ 100) : EvD K S H0 σ (tTup ta) (.tuple ds) := fun H1 s Q q =>
  t_tup (h H1 s _ fun us H2 s2 d2 => ⟨by rw [dpa_len d2]; exact Nat.le_trans l (by decide), fun r hr => q _ _ (s2.trans (same_new hr)) (dp_newT (kn.same (s.trans s2)) hr d2)⟩)
theorem ev_lst {ta : TA} {ds : List PyData} (kn : Kn S H0) (h : EvA K S H0 σ ta ds) (l : ds.length ≤ 100) : EvD K S H0 σ (tLst ta) (.list ds) := fun H1 s Q q =>
  t_lst (h H1 s _ fun us H2 s2 d2 => ⟨by rw [dpa_len d2]; exact Nat.le_trans l (by decide), fun r hr => q _ _ (s2.trans (same_new hr)) (dp_newL (kn.same (s.trans s2)) hr d2)⟩)
theorem ev_cat {t1 t2 : TE} {ds es : List PyData} (kn : Kn S H0) (h : EvD K S H0 σ t1 (.list ds)) (h2 : EvD K S H0 σ t2 (.list es)) (l : ds.length + es.length ≤ 100000) : EvD K S H0 σ (tOp (rCatS K) t1 t2) (.list (ds ++ es)) := fun H1 s Q q =>
  t_op (h H1 s _ fun u H2 s2 d2 => h2 H2 (s.trans s2) _ fun v H3 s3 d3 => cat_d (kn.same ((s.trans s2).trans s3)) (dp_same (off_same s3) _ _ d2) d3 l fun w H4 s4 d4 => q _ _ ((s2.trans s3).trans s4) d4)
theorem ev_call {α : Type} {enc : α → List PyData} {pre : α → Prop} {f : α → PyData} {ta : TA} (x : α) (kn : Kn S H0) (h : EvA K S H0 σ ta (enc x)) (hp : pre x) : EvD K S H0 σ (tCall (spP K enc pre f) [] E0 ta) (f x) := fun H1 s Q q =>
  show ta σ H1 (fun us H2 => spP K enc pre f (us ++ []) H2 Q E0) from h H1 s _ fun us H2 s2 d2 => ⟨S, x, kn.same (s.trans s2), by rw [List.append_nil]; exact d2, hp, fun v H' s' d' => q v H' (s2.trans s') d'⟩
end
end K31

set_option maxRecDepth 100000
set_option maxHeartbeats 4000000
namespace K31
open PySem PySem.Spec PyProof.Rows L2 Kh
/-- a test's answer -/
def EvT (H0 : Hp) (σ : L2.St) (tt : TT) (b : Bool) : Prop := ∀ H1, Same H0 H1 → ∀ Q : Bool → Hp → Prop, (∀ H', Same H1 H' → Q b H') → tt σ H1 Q
section
variable {K : PySem.W.Frag} {S : Addr → Prop} {H0 : Hp} {σ : L2.St} {C : Addr}
theorem et_val {te : TE} {b : Bool} (h : EvD K S H0 σ te (.bool b)) : EvT H0 σ (tB te) b := fun H1 s Q q => b_val (h H1 s _ fun u H' s' d => by cases d; exact ⟨_, rfl, q H' s'⟩)
theorem et_not {tt : TT} {b : Bool} (h : EvT H0 σ tt b) : EvT H0 σ (tNot tt) (!b) := fun H1 s Q q => b_not (h H1 s _ fun H' s' => q H' s')
theorem et_ne {i j n m : Nat} (hi : σ[i]? = some (some (.int (n : Nat)))) (hj : σ[j]? = some (some (.int (m : Nat)))) : EvT H0 σ (tTest (tOp rNe (tVar i) (tVar j))) (!decide (n = m)) := fun H1 s Q q =>
  b_test (t_op (t_var hi (t_var hj ⟨rfl, _, rfl, by rw [dec_int]; exact q H1 (Same.refl _)⟩)))
theorem ev_bl (b : Bool) : EvD K S H0 σ (tC (.bl b)) (.bool b) := fun H1 s Q q => t_c (q _ _ (Same.refl _) (.bl _))
theorem ev_not {te : TE} {b : Bool} (h : EvD K S H0 σ te (.bool b)) : EvD K S H0 σ (tNotV te) (.bool (!b)) := fun H1 s Q q => t_notV (h H1 s _ fun u H' s' d => by cases d; exact ⟨_, rfl, q _ H' s' (.bl _)⟩)
theorem ev_any {te : TE} {bs : List Bool} (h : EvD K S H0 σ te (.list (bs.map PyData.bool))) : EvD K S H0 σ (tCB (rAny K) (tCons te tNil)) (.bool (bs.any id)) := fun H1 s Q q => t_cb1 (h H1 s _ fun u H' s' d => any_d off_sub d (q _ H' s' (.bl _)))
theorem ev_all {te : TE} {bs : List Bool} (h : EvD K S H0 σ te (.list (bs.map PyData.bool))) : EvD K S H0 σ (tCB (rAll K) (tCons te tNil)) (.bool (bs.all id)) := fun H1 s Q q => t_cb1 (h H1 s _ fun u H' s' d => all_d off_sub d (q _ H' s' (.bl _)))
theorem ev_callT {α : Type} {enc : α → List PyData} {pre : List (List Nat) → α → Prop} {f : List (List Nat) → α → PyData} {ta : TA} {k : Nat} {x : Addr} {R : List (List Nat)} (y : α) (kn : Kn S H0) (ht : TabAt K C (off S H0) R x) (tb : Tb R) (hk : σ[k]? = some (some (.ref x))) (h : EvA K S H0 σ ta (enc y)) (hp : pre R y) : EvD K S H0 σ (tCall (spT K C enc pre f) [] E0 (tCons (tVar k) ta)) (f R y) := fun H1 s Q q =>
  t_call (a_cons (t_var hk (h H1 s _ fun us H2 s2 d2 => ⟨S, R, x, y, us, rfl, kn.same (s.trans s2), ht.same (off_same (s.trans s2)), tb, d2, hp, fun v H' s' d' => q v H' (s2.trans s') d'⟩)))
/-- [x for x in ms if p x] -/
theorem ev_filt {t : TE} {tt : TT} {sl : Nat} {vs : List Nat} (b : Bool) (ms : List Nat) (p : Nat → Bool) (kn : Kn S H0) (h : EvD K S H0 σ t (sq b (ms.map nD))) (few : ms.length ≤ 1000) (hw : ∀ x, wipe ((wipe σ vs).set sl (some x)) vs = wipe σ vs)
    (hs : ∀ v, ((wipe σ vs).set sl (some v))[sl]? = some (some v)) (test : ∀ m ∈ ms, ∀ H1 S', Kn S' H1 → Same (off S H0) (off S' H1) → EvT H1 ((wipe σ vs).set sl (some (.int (m : Nat)))) tt (p m)) :
    EvD K S H0 σ (tLc (fun σ H R => iList K t σ H R ∨ iTup K t σ H R) (gName sl) tt (tVar sl) vs) (nL (ms.filter p)) := fun H1 s Q q =>
  lcF b ms p nD nD (kn.same s) (fun Q q => h H1 s Q q) (by omega) hw (fun m hm x H2 S2 s2 kn2 dx hS ho Q2 q2 => by cases dx; exact test m hm H2 S2 kn2 ((off_same s).trans ho) H2 (Same.refl _) Q2 q2)
    (fun m hm _ x H2 S2 s2 kn2 dx hS ho Q2 q2 => t_var (hs x) (q2 _ _ (Same.refl _) dx)) fun D H2 ys hD s2 hd2 h2 => q _ _ s2 h2
/-- [x for x in range(n) if p x] -/
theorem ev_rfilt {tt : TT} {ta : TA} {sl : Nat} {vs : List Nat} (n : Nat) (p : Nat → Bool) (kn : Kn S H0) (hn : n ≤ 1000) (hev : ∀ H1, Same H0 H1 → ∀ q : List V → Hp → Prop, (∀ H2, Same H1 H2 → q [.int (n : Nat)] H2) → ta σ H1 q) (hw : ∀ x, wipe ((wipe σ vs).set sl (some x)) vs = wipe σ vs)
    (hs : ∀ v, ((wipe σ vs).set sl (some v))[sl]? = some (some v)) (test : ∀ m, m < n → ∀ H1 S', Kn S' H1 → Same (off S H0) (off S' H1) → EvT H1 ((wipe σ vs).set sl (some (.int (m : Nat)))) tt (p m)) :
    EvD K S H0 σ (tLc (iRng1 ta) (gName sl) tt (tVar sl) vs) (nL ((List.range n).filter p)) := fun H1 s Q q =>
  lc_rngF p nD (kn.same s) (by omega) (fun q' h' => hev H1 s q' h') hw (fun m H2 S2 hm s2 kn2 hS ho Q2 q2 => test m hm H2 S2 kn2 ((off_same s).trans ho) H2 (Same.refl _) Q2 q2)
    (fun m H2 S2 hm _ s2 kn2 hS ho Q2 q2 => t_var (hs _) (q2 _ _ (Same.refl _) (.int _))) fun D H2 ys hD s2 hd2 h2 => q _ _ s2 h2
/-- [e for x in ms], e a truth value -/
theorem ev_bools {t te : TE} {sl : Nat} {vs : List Nat} (b : Bool) (ms : List Nat) (p : Nat → Bool) (kn : Kn S H0) (h : EvD K S H0 σ t (sq b (ms.map nD))) (few : ms.length ≤ 1000) (hw : ∀ x, wipe ((wipe σ vs).set sl (some x)) vs = wipe σ vs)
    (body : ∀ m ∈ ms, ∀ H1 S', Kn S' H1 → Same (off S H0) (off S' H1) → EvD K S' H1 ((wipe σ vs).set sl (some (.int (m : Nat)))) te (.bool (p m))) :
    EvD K S H0 σ (tLc (fun σ H R => iList K t σ H R ∨ iTup K t σ H R) (gName sl) tYes te vs) (.list ((ms.map p).map PyData.bool)) := fun H1 s Q q =>
  lcM b ms nD (fun m => .bool (p m)) (kn.same s) (fun Q q => h H1 s Q q) (by omega) hw (fun m hm x H2 S2 s2 kn2 dx hS ho Q2 q2 => by cases dx; exact body m hm H2 S2 kn2 ((off_same s).trans ho) H2 (Same.refl _) Q2 q2)
    fun D H2 ys hD s2 hd2 h2 => q _ _ s2 (by rw [List.map_map]; exact h2)
/-- [e for x in range(n)], e a truth value -/
theorem ev_rbools {te : TE} {ta : TA} {sl : Nat} {vs : List Nat} (n : Nat) (p : Nat → Bool) (kn : Kn S H0) (hn : n ≤ 1000) (hev : ∀ H1, Same H0 H1 → ∀ q : List V → Hp → Prop, (∀ H2, Same H1 H2 → q [.int (n : Nat)] H2) → ta σ H1 q) (hw : ∀ x, wipe ((wipe σ vs).set sl (some x)) vs = wipe σ vs)
    (body : ∀ m, m < n → ∀ H1 S', Kn S' H1 → Same (off S H0) (off S' H1) → EvD K S' H1 ((wipe σ vs).set sl (some (.int (m : Nat)))) te (.bool (p m))) :
    EvD K S H0 σ (tLc (iRng1 ta) (gName sl) tYes te vs) (.list (((List.range n).map p).map PyData.bool)) := fun H1 s Q q =>
  lc_rngB p (kn.same s) hn (fun q' h' => hev H1 s q' h') hw (fun m H2 S2 hm s2 kn2 hS ho Q2 q2 => body m hm H2 S2 kn2 ((off_same s).trans ho) H2 (Same.refl _) Q2 fun u H' s' d => by cases d; exact q2 H' s')
    fun D H2 s2 h2 => q _ _ s2 h2
end
theorem len_flat {α β : Type} (l : List α) (m : List β) : (l.flatMap fun _ => m).length = l.length * m.length := by
  induction l with
  | nil => simp
  | cons a l ih => rw [List.flatMap_cons, List.length_append, ih, List.length_cons, Nat.succ_mul, Nat.add_comm]
def oth (n v : Nat) : List Nat := (List.range n).filter fun m => !decide (m = v)
def isP (R : List (List Nat)) (v : Nat) : Bool := !(((oth R.length v).flatMap fun one => (oth R.length v).map fun other => decide (at_ R one other = v)).any id)
def pcs (R : List (List Nat)) : List Nat := (List.range R.length).filter (isP R)
def pin (R : List (List Nat)) (v : Nat) : List Nat := (pcs R).filter fun m => decide (at_ R m v = v)
def less (l : List Nat) (m : Nat) : List Nat := l.filter fun n => !decide (n = m)
def ned (R : List (List Nat)) (v : Nat) : List Nat := (pin R v).filter fun m => !dm R (less (pin R v) m) v
def frl (R : List (List Nat)) (l : List Nat) (v : Nat) : Bool := dm R l v && !((l.map fun m => dm R (less l m) v).any id)
theorem pcs_lt {R : List (List Nat)} : ∀ n ∈ pcs R, n < R.length := fun n hn => List.mem_range.mp (List.mem_filter.mp hn).1
theorem pin_lt {R : List (List Nat)} {v : Nat} : ∀ n ∈ pin R v, n < R.length := fun n hn => pcs_lt n (List.mem_filter.mp hn).1
theorem pcs_few {R : List (List Nat)} (tb : Tb R) : (pcs R).length ≤ 7 := by
  have := List.length_filter_le (isP R) (List.range R.length)
  rw [List.length_range] at this
  exact Nat.le_trans this tb.few
theorem pin_few {R : List (List Nat)} (tb : Tb R) (v : Nat) : (pin R v).length ≤ 7 := Nat.le_trans (List.length_filter_le _ _) (pcs_few tb)
section
variable {P : Program} {w : World} {K : PySem.W.Frag} {mg : Str → Option Value} {base : Heap} {a : Nat → Addr} {fd : Nat → FuncData} {C : Addr} {tk : Nat → Tok}
def e1n (n : Nat) : List PyData := [nD n]
end
end K31

set_option maxRecDepth 100000
set_option maxHeartbeats 4000000
namespace K31
open PySem PySem.Spec PyProof.Rows L2 Kh
theorem less_len (l : List Nat) (m : Nat) : (less l m).length ≤ l.length := List.length_filter_le _ _
theorem less_mem {l : List Nat} {m n : Nat} (h : n ∈ less l m) : n ∈ l := (List.mem_filter.mp h).1
section
variable {P : Program} {w : World} {K : PySem.W.Frag} {mg : Str → Option Value} {base : Heap} {a : Nat → Addr} {fd : Nat → FuncData} {C : Addr} {tk : Nat → Tok}
abbrev spChkM (K : PySem.W.Frag) (C : Addr) : Sp := spT K C (fun _ : Unit => []) (fun R _ => Melts R) fun _ _ => .none
theorem ok_check_melting (T : Txt K mg a fd C tk) (U : TxC K mg a C) : FnOk P w K mg base CX0 6 (a 14) (fd 14) ["table"] (spChkM K C) := by
  have G_melts := ok_melts (P := P) (w := w) (base := base) T U
  refine T.F_check_melting.ok sc_check_melting (fun vs H Q E h => spT_len (n := 0) (fun _ => rfl) h) (fun cdv A outer s H vs Q E hr h => ?_)
  obtain ⟨S, R, x, v, us, rfl, kn, ht, tb, ⟨⟩, me, q⟩ := h
  refine ⟨_, (pss_one (ps_if (pt_not (pt_val (pe_call G_melts (hr.mono (by omega)) (by rfl) T.m_melts T.F_melts.kp T.b_melts .nil pass0 (pa_cons (pv 0) pa_nil))))
        (pss_one ps_never) pss_nil)), ?_⟩
  exact s_if (b_not (b_val (t_call1 (t_var rfl ⟨S, R, x, rfl, kn, ht, tb, fun _ H1 s1 => ⟨_, rfl, ifF rfl (s_next (q _ _ s1 .non))⟩, fun n => (n me).elim⟩))))
end
end K31

set_option maxRecDepth 100000
set_option maxHeartbeats 1000000
namespace K31
open PySem PySem.Spec PyProof.Rows L2 Kh
section
variable {R : List (List Nat)}
theorem fold_up (tb : Tb R) (me : Melts R) : ∀ (r : List Nat) (v : Nat), v < R.length → (∀ n ∈ r, n < R.length) → at_ R v (r.foldl (at_ R) v) = r.foldl (at_ R) v ∧ ∀ x ∈ r, at_ R x (r.foldl (at_ R) v) = r.foldl (at_ R) v
  | [], v, hv, _ => ⟨me.idem v hv, fun x h => (nomatch h)⟩
  | a :: r, v, hv, h => by
    have ha := h a List.mem_cons_self
    have hr : ∀ n ∈ r, n < R.length := fun n hn => h n (List.mem_cons_of_mem _ hn)
    have hva := at_lt tb hv ha
    obtain ⟨h1, h2⟩ := fold_up tb me r (at_ R v a) hva hr
    have hf := fold_lt tb r (at_ R v a) hva hr
    rw [List.foldl_cons]
    generalize r.foldl (at_ R) (at_ R v a) = f at *
    refine ⟨?_, fun x hx => ?_⟩
    · calc at_ R v f = at_ R v (at_ R (at_ R v a) f) := by rw [h1]
        _ = at_ R (at_ R v (at_ R v a)) f := (me.assoc _ _ _ hv hva hf).symm
        _ = at_ R (at_ R (at_ R v v) a) f := by rw [me.assoc v v a hv hv ha]
        _ = f := by rw [me.idem v hv, h1]
    · rcases List.mem_cons.mp hx with rfl | hx
      · calc at_ R x f = at_ R x (at_ R (at_ R v x) f) := by rw [h1]
          _ = at_ R (at_ R x (at_ R v x)) f := (me.assoc _ _ _ ha hva hf).symm
          _ = at_ R (at_ R x (at_ R x v)) f := by rw [me.comm v x hv ha]
          _ = at_ R (at_ R (at_ R x x) v) f := by rw [me.assoc x x v ha ha hv]
          _ = f := by rw [me.idem x ha, me.comm x v ha hv, h1]
      · exact h2 x hx
theorem fold_least (tb : Tb R) (me : Melts R) {y : Nat} (hy : y < R.length) : ∀ (r : List Nat) (v : Nat), v < R.length → (∀ n ∈ r, n < R.length) → at_ R v y = y → (∀ x ∈ r, at_ R x y = y) → at_ R (r.foldl (at_ R) v) y = y
  | [], v, _, _, h, _ => h
  | a :: r, v, hv, h, h1, h2 => by
    have ha := h a List.mem_cons_self
    exact fold_least tb me hy r (at_ R v a) (at_lt tb hv ha) (fun n hn => h n (List.mem_cons_of_mem _ hn)) (by rw [me.assoc _ _ _ hv ha hy, h2 a List.mem_cons_self, h1]) fun x hx => h2 x (List.mem_cons_of_mem _ hx)
theorem jn_up (tb : Tb R) (me : Melts R) {l : List Nat} (lt : ∀ n ∈ l, n < R.length) : ∀ x ∈ l, at_ R x (jn R l) = jn R l := fun x hx => by
  cases l with
  | nil => cases hx
  | cons v r =>
    have := fold_up tb me r v (lt v List.mem_cons_self) fun n hn => lt n (List.mem_cons_of_mem _ hn)
    rcases List.mem_cons.mp hx with rfl | hx
    · exact this.1
    · exact this.2 x hx
theorem jn_least (tb : Tb R) (me : Melts R) {l : List Nat} (ne : l ≠ []) (lt : ∀ n ∈ l, n < R.length) {y : Nat} (hy : y < R.length) (h : ∀ x ∈ l, at_ R x y = y) : at_ R (jn R l) y = y := by
  cases l with
  | nil => exact (ne rfl).elim
  | cons v r => exact fold_least tb me hy r v (lt v List.mem_cons_self) (fun n hn => lt n (List.mem_cons_of_mem _ hn)) (h v List.mem_cons_self) fun x hx => h x (List.mem_cons_of_mem _ hx)
theorem anti (me : Melts R) {x y : Nat} (hx : x < R.length) (hy : y < R.length) (h1 : at_ R x y = y) (h2 : at_ R y x = x) : x = y := by
  rw [me.comm y x hy hx] at h2
  rw [← h2, h1]
theorem up_trans (me : Melts R) {x y z : Nat} (hx : x < R.length) (hy : y < R.length) (hz : z < R.length) (h1 : at_ R x y = y) (h2 : at_ R y z = z) : at_ R x z = z := by
  rw [← h2, ← me.assoc _ _ _ hx hy hz, h1]
theorem dm_iff {l : List Nat} {v : Nat} : dm R l v = true ↔ l ≠ [] ∧ jn R l = v := by
  unfold dm
  rw [Bool.and_eq_true, decide_eq_true_iff, decide_eq_true_iff, List.length_pos_iff]
theorem mem_less {l : List Nat} {m n : Nat} : n ∈ less l m ↔ n ∈ l ∧ n ≠ m := by
  unfold less
  rw [List.mem_filter]
  simp
theorem mem_pin {v m : Nat} : m ∈ pin R v ↔ m < R.length ∧ isP R m = true ∧ at_ R m v = v := by
  unfold pin pcs
  rw [List.mem_filter, List.mem_filter, List.mem_range, decide_eq_true_iff, and_assoc]
/-- l makes v, and so does what is between l and all pieces within -/
theorem dm_more (tb : Tb R) (me : Melts R) {l m : List Nat} {v : Nat} (hv : v < R.length) (h : dm R l v = true) (sub : ∀ x ∈ l, x ∈ m) (hm : ∀ x ∈ m, x < R.length ∧ at_ R x v = v) : dm R m v = true := by
  obtain ⟨ne, e⟩ := dm_iff.mp h
  have nm : m ≠ [] := by
    cases l with
    | nil => exact (ne rfl).elim
    | cons a l => exact fun z => by have := sub a List.mem_cons_self; rw [z] at this; cases this
  have lm : ∀ n ∈ m, n < R.length := fun n hn => (hm n hn).1
  have ll : ∀ n ∈ l, n < R.length := fun n hn => lm n (sub n hn)
  have j1 := jn_lt tb nm lm
  refine dm_iff.mpr ⟨nm, anti me j1 hv (jn_least tb me nm lm hv fun x hx => (hm x hx).2) ?_⟩
  rw [← e]
  exact jn_least tb me ne ll j1 fun x hx => jn_up tb me lm x (sub x hx)
theorem filt_lt {α : Type} {p q : α → Bool} : ∀ {l : List α}, (∀ x ∈ l, p x = true → q x = true) → (∃ x ∈ l, q x = true ∧ p x = false) → (l.filter p).length < (l.filter q).length
  | [], _, ⟨_, h, _⟩ => (nomatch h)
  | a :: l, h, ⟨x, hx, hq, hp⟩ => by
    have le : ∀ {l : List α}, (∀ x ∈ l, p x = true → q x = true) → (l.filter p).length ≤ (l.filter q).length := fun {l} => by
      induction l with
      | nil => intro _; exact Nat.le_refl _
      | cons a l ih =>
        intro h
        have := ih fun x hx => h x (List.mem_cons_of_mem _ hx)
        have ha := h a List.mem_cons_self
        cases e : p a with
        | false => cases e2 : q a <;> simp [e, e2] <;> omega
        | true => simp [e, ha e]; omega
    have hl : ∀ x ∈ l, p x = true → q x = true := fun x hx => h x (List.mem_cons_of_mem _ hx)
    rcases List.mem_cons.mp hx with rfl | hx
    · have := le hl
      simp [hp, hq]; omega
    · have := filt_lt hl ⟨x, hx, hq, hp⟩
      have ha := h a List.mem_cons_self
      cases e : p a with
      | false => cases e2 : q a <;> simp [e, e2] <;> omega
      | true => simp [e, ha e]; omega
theorem isP_not {v : Nat} (h : isP R v = false) : ∃ one other, one < R.length ∧ other < R.length ∧ one ≠ v ∧ other ≠ v ∧ at_ R one other = v := by
  unfold isP oth at h
  simp only [Bool.not_eq_false', List.any_eq_true, List.mem_flatMap, List.mem_map, List.mem_filter, List.mem_range, id] at h
  obtain ⟨b, ⟨one, ⟨h1, h2⟩, other, ⟨h3, h4⟩, e⟩, hb⟩ := h
  subst hb
  refine ⟨one, other, h1, h3, by simpa using h2, by simpa using h4, by simpa using e⟩
/-- the pieces within a value make it -/
theorem pin_makes (tb : Tb R) (me : Melts R) : ∀ (k : Nat) (v : Nat), v < R.length → ((List.range R.length).filter fun x => decide (at_ R x v = v)).length ≤ k → dm R (pin R v) v = true
  | 0, v, hv, h => by
    have : v ∈ (List.range R.length).filter fun x => decide (at_ R x v = v) := List.mem_filter.mpr ⟨List.mem_range.mpr hv, decide_eq_true (me.idem v hv)⟩
    rw [List.length_eq_zero_iff.mp (Nat.le_zero.mp h)] at this
    cases this
  | k + 1, v, hv, h => by
    have pv : ∀ x ∈ pin R v, x < R.length ∧ at_ R x v = v := fun x hx => ⟨(mem_pin.mp hx).1, (mem_pin.mp hx).2.2⟩
    cases e : isP R v with
    | true => exact dm_more tb me hv (l := [v]) (dm_iff.mpr ⟨by simp, rfl⟩) (fun x hx => by rw [List.mem_singleton.mp hx]; exact mem_pin.mpr ⟨hv, e, me.idem v hv⟩) pv
    | false =>
      obtain ⟨one, other, h1, h2, n1, n2, ej⟩ := isP_not e
      have u1 : at_ R one v = v := by rw [← ej, ← me.assoc _ _ _ h1 h1 h2, me.idem _ h1]
      have u2 : at_ R other v = v := by rw [← ej, me.comm one other h1 h2, ← me.assoc _ _ _ h2 h2 h1, me.idem _ h2]
      have dn : ∀ w, w < R.length → w ≠ v → at_ R w v = v → dm R (pin R w) w = true := fun w hw nw uw => pin_makes tb me k w hw (by
        have := filt_lt (l := List.range R.length) (p := fun x => decide (at_ R x w = w)) (q := fun x => decide (at_ R x v = v)) (fun x hx hp => decide_eq_true (up_trans me (List.mem_range.mp hx) hw hv (of_decide_eq_true hp) uw)) ⟨v, List.mem_range.mpr hv, decide_eq_true (me.idem v hv), decide_eq_false fun z => nw (anti me hw hv uw z)⟩
        omega)
      have d1 := dm_iff.mp (dn one h1 n1 u1)
      have d2 := dm_iff.mp (dn other h2 n2 u2)
      have pl : ∀ n ∈ pin R v, n < R.length := fun n hn => (pv n hn).1
      have sub : ∀ w, w < R.length → at_ R w v = v → ∀ x ∈ pin R w, x ∈ pin R v := fun w hw uw x hx => by
        obtain ⟨a1, a2, a3⟩ := mem_pin.mp hx
        exact mem_pin.mpr ⟨a1, a2, up_trans me a1 hw hv a3 uw⟩
      have ne : pin R v ≠ [] := by
        obtain ⟨x, hx⟩ := List.exists_mem_of_ne_nil _ d1.1
        exact fun z => by have := sub one h1 u1 x hx; rw [z] at this; cases this
      have j1 := jn_lt tb ne pl
      have g : ∀ w, w < R.length → at_ R w v = v → pin R w ≠ [] ∧ jn R (pin R w) = w → at_ R w (jn R (pin R v)) = jn R (pin R v) := fun w hw uw hd => by
        have := jn_least tb me hd.1 (fun n hn => (mem_pin.mp hn).1) j1 fun x hx => jn_up tb me pl x (sub w hw uw x hx)
        rw [hd.2] at this
        exact this
      refine dm_iff.mpr ⟨ne, anti me j1 hv (jn_least tb me ne pl hv fun x hx => (pv x hx).2) ?_⟩
      have g1 := g one h1 u1 d1
      have g2 := g other h2 u2 d2
      clear g
      generalize jn R (pin R v) = J at *
      rw [← ej, me.assoc _ _ _ h1 h2 j1, g2, g1]
theorem makes_all (tb : Tb R) (me : Melts R) {v : Nat} (hv : v < R.length) : dm R (pin R v) v = true := pin_makes tb me _ v hv (Nat.le_refl _)
end
/-- all lists of some values -/
def subs (p : List Nat) : List (List Nat) := p.foldl (fun f h => f ++ f.map fun l => l ++ [h]) [[]]
theorem subs_snoc (p : List Nat) (h : Nat) : subs (p ++ [h]) = subs p ++ (subs p).map fun l => l ++ [h] := by
  unfold subs
  rw [List.foldl_append]; rfl
theorem snoc_of {p : List Nat} {k : Nat} (h : p.length = k + 1) : ∃ q h, p = q ++ [h] :=
  ⟨p.take k, p[k], by
    have := List.take_append_drop k p
    rw [List.drop_eq_getElem_cons (by omega), List.drop_eq_nil_of_le (by omega)] at this
    exact this.symm⟩
theorem sub_single {l : List Nat} {h : Nat} (s : l.Sublist [h]) : l = [] ∨ l = [h] := by
  cases s with
  | cons _ s => left; exact List.sublist_nil.mp s
  | cons_cons _ s => right; rw [List.sublist_nil.mp s]
theorem subs_mem {l : List Nat} : ∀ (k : Nat) (p : List Nat), p.length = k → (l ∈ subs p ↔ l.Sublist p) := fun k => by
  induction k generalizing l with
  | zero =>
    intro p hp
    rw [List.length_eq_zero_iff.mp hp, List.sublist_nil]
    show l ∈ [[]] ↔ _
    exact List.mem_singleton
  | succ k ih =>
    intro p hp
    obtain ⟨q, h, rfl⟩ : ∃ q h, p = q ++ [h] := snoc_of hp
    have hq : q.length = k := by rw [List.length_append] at hp; simpa using hp
    rw [subs_snoc, List.mem_append, List.sublist_append_iff]
    constructor
    · rintro (z | z)
      · exact ⟨l, [], by simp, (ih q hq).mp z, List.nil_sublist _⟩
      · obtain ⟨m, hm, rfl⟩ := List.mem_map.mp z
        exact ⟨m, [h], rfl, (ih q hq).mp hm, List.Sublist.refl _⟩
    · rintro ⟨l1, l2, rfl, h1, h2⟩
      rcases sub_single h2 with rfl | rfl
      · left; rw [List.append_nil]; exact (ih q hq).mpr h1
      · right; exact List.mem_map.mpr ⟨l1, (ih q hq).mpr h1, rfl⟩
theorem mem_subs {l p : List Nat} : l ∈ subs p ↔ l.Sublist p := subs_mem _ p rfl
theorem subs_nodup : ∀ (k : Nat) (p : List Nat), p.length = k → p.Nodup → (subs p).Nodup := fun k => by
  induction k with
  | zero => intro p hp _; rw [List.length_eq_zero_iff.mp hp]; exact List.nodup_cons.mpr ⟨fun z => (nomatch z), List.nodup_nil⟩
  | succ k ih =>
    intro p hp nd
    obtain ⟨q, h, rfl⟩ : ∃ q h, p = q ++ [h] := snoc_of hp
    have hq : q.length = k := by rw [List.length_append] at hp; simpa using hp
    obtain ⟨n1, _, n3⟩ := List.nodup_append.mp nd
    rw [subs_snoc, List.nodup_append]
    have nq := ih q hq n1
    refine ⟨nq, ?_, fun a ha b hb e => ?_⟩
    · unfold List.Nodup at nq ⊢
      rw [List.pairwise_map]
      exact nq.imp fun hab e => hab (List.append_cancel_right e)
    · subst e
      obtain ⟨m, hm, rfl⟩ := List.mem_map.mp hb
      have := (mem_subs.mp ha).subset (List.mem_append_right m (List.mem_singleton.mpr rfl))
      exact n3 h this h (List.mem_singleton.mpr rfl) rfl
theorem subs_len : ∀ (k : Nat) (p : List Nat), p.length = k → (subs p).length = 2 ^ k := fun k => by
  induction k with
  | zero => intro p hp; rw [List.length_eq_zero_iff.mp hp]; rfl
  | succ k ih =>
    intro p hp
    obtain ⟨q, h, rfl⟩ : ∃ q h, p = q ++ [h] := snoc_of hp
    have hq : q.length = k := by rw [List.length_append] at hp; simpa using hp
    rw [subs_snoc, List.length_append, List.length_map, ih q hq, Nat.pow_succ]; omega
/-- parts of a list without like values: the same elements, the same part -/
theorem sub_one : ∀ {p l m : List Nat}, p.Nodup → l.Sublist p → m.Sublist p → (∀ x, x ∈ l ↔ x ∈ m) → l = m
  | [], l, m, _, hl, hm, _ => by rw [List.sublist_nil.mp hl, List.sublist_nil.mp hm]
  | a :: p, l, m, nd, hl, hm, h => by
    obtain ⟨na, nd'⟩ := List.nodup_cons.mp nd
    have out : ∀ {l : List Nat}, l.Sublist p → a ∉ l := fun hl ha => na (hl.subset ha)
    cases hl with
    | cons _ hl =>
      cases hm with
      | cons _ hm => exact sub_one nd' hl hm h
      | cons_cons _ hm => exact (out hl ((h a).mpr List.mem_cons_self)).elim
    | cons_cons _ hl =>
      cases hm with
      | cons _ hm => exact (out hm ((h a).mp List.mem_cons_self)).elim
      | cons_cons _ hm =>
        rename_i l1 m1
        refine congrArg (a :: ·) (sub_one nd' hl hm fun x => ?_)
        constructor
        · intro hx
          rcases List.mem_cons.mp ((h x).mp (List.mem_cons_of_mem _ hx)) with rfl | z
          · exact (out hl hx).elim
          · exact z
        · intro hx
          rcases List.mem_cons.mp ((h x).mpr (List.mem_cons_of_mem _ hx)) with rfl | z
          · exact (out hm hx).elim
          · exact z
section
variable {R : List (List Nat)}
theorem frl_iff {l : List Nat} {v : Nat} : frl R l v = true ↔ dm R l v = true ∧ ∀ m ∈ l, dm R (less l m) v = false := by
  unfold frl
  simp
theorem less_sub (l : List Nat) (m : Nat) : (less l m).Sublist l := List.filter_sublist
/-- what makes a value has a free part -/
theorem free_in : ∀ (k : Nat) (l : List Nat) (v : Nat), l.length ≤ k → dm R l v = true → ∃ m, m.Sublist l ∧ frl R m v = true
  | 0, l, v, hk, h => ((dm_iff.mp h).1 (List.length_eq_zero_iff.mp (Nat.le_zero.mp hk))).elim
  | k + 1, l, v, hk, h => by
    by_cases e : ∀ m ∈ l, dm R (less l m) v = false
    · exact ⟨l, List.Sublist.refl _, frl_iff.mpr ⟨h, e⟩⟩
    · have ⟨m, hm, em⟩ : ∃ m, m ∈ l ∧ dm R (less l m) v = true := by
        refine Classical.byContradiction fun c => e fun m hm => ?_
        cases z : dm R (less l m) v with
        | false => rfl
        | true => exact (c ⟨m, hm, z⟩).elim
      have : (less l m).length < l.length := by
        have := filt_lt (l := l) (p := fun n => !decide (n = m)) (q := fun _ => true) (fun _ _ _ => rfl) ⟨m, hm, rfl, by simp⟩
        rw [List.filter_eq_self.mpr (fun _ _ => rfl)] at this
        exact this
      obtain ⟨q, h1, h2⟩ := free_in k (less l m) v (by omega) em
      exact ⟨q, h1.trans (less_sub l m), h2⟩
theorem pin_ok {v : Nat} : ∀ x ∈ pin R v, x < R.length ∧ at_ R x v = v := fun x hx => ⟨(mem_pin.mp hx).1, (mem_pin.mp hx).2.2⟩
theorem pin_nodup {v : Nat} : (pin R v).Nodup := (List.nodup_range.sublist List.filter_sublist).sublist List.filter_sublist
theorem ned_iff {v m : Nat} : m ∈ ned R v ↔ m ∈ pin R v ∧ dm R (less (pin R v) m) v = false := by
  unfold ned
  rw [List.mem_filter]; simp
/-- what makes a value has all that is needed -/
theorem ned_in (tb : Tb R) (me : Melts R) {v : Nat} (hv : v < R.length) {l : List Nat} (sub : ∀ x ∈ l, x ∈ pin R v) (h : dm R l v = true) : ∀ m ∈ ned R v, m ∈ l := fun m hm => by
  refine Classical.byContradiction fun c => ?_
  obtain ⟨h1, h2⟩ := ned_iff.mp hm
  have := dm_more tb me hv h (m := less (pin R v) m) (fun x hx => mem_less.mpr ⟨sub x hx, fun e => c (e ▸ hx)⟩) fun x hx => pin_ok x (less_mem hx)
  rw [h2] at this
  cases this
def fls (R : List (List Nat)) (v : Nat) : List (List Nat) := (subs (pin R v)).filter fun l => frl R l v
theorem fls_mem {v : Nat} {l : List Nat} : l ∈ fls R v ↔ l.Sublist (pin R v) ∧ frl R l v = true := by
  unfold fls
  rw [List.mem_filter, mem_subs]
theorem fls_some (tb : Tb R) (me : Melts R) {v : Nat} (hv : v < R.length) : fls R v ≠ [] := by
  obtain ⟨m, h1, h2⟩ := free_in _ (pin R v) v (Nat.le_refl _) (makes_all tb me hv)
  exact fun e => by have := fls_mem.mpr ⟨h1, h2⟩; rw [e] at this; cases this
/-- one free list exactly if what is needed makes the value -/
theorem fls_one (tb : Tb R) (me : Melts R) {v : Nat} (hv : v < R.length) (h : dm R (ned R v) v = true) : fls R v = [ned R v] := by
  have ns : (ned R v).Sublist (pin R v) := List.filter_sublist
  have nin : ned R v ∈ fls R v := fls_mem.mpr ⟨ns, frl_iff.mpr ⟨h, fun m hm => by
    cases e : dm R (less (ned R v) m) v with
    | false => rfl
    | true => exact ((mem_less.mp (ned_in tb me hv (fun x hx => ns.subset (less_mem hx)) e m hm)).2 rfl).elim⟩⟩
  have all : ∀ l ∈ fls R v, l = ned R v := fun l hl => by
    obtain ⟨h1, h2⟩ := fls_mem.mp hl
    obtain ⟨h3, h4⟩ := frl_iff.mp h2
    refine sub_one pin_nodup h1 ns fun x => ⟨fun hx => Classical.byContradiction fun c => ?_, fun hx => ned_in tb me hv (fun y hy => h1.subset hy) h3 x hx⟩
    have := dm_more tb me hv h (m := less l x) (fun y hy => mem_less.mpr ⟨ned_in tb me hv (fun y hy => h1.subset hy) h3 y hy, fun e => c (e ▸ hy)⟩) fun y hy => pin_ok y (h1.subset (less_mem hy))
    rw [h4 x hx] at this
    cases this
  have nd : (fls R v).Nodup := (subs_nodup _ _ rfl pin_nodup).sublist List.filter_sublist
  match e : fls R v with
  | [] => rw [e] at nin; cases nin
  | [a] => rw [e] at all; rw [all a List.mem_cons_self]
  | a :: b :: r =>
    rw [e] at all nd
    have := (List.nodup_cons.mp nd).1
    rw [all a List.mem_cons_self, all b (List.mem_cons_of_mem _ List.mem_cons_self)] at this
    exact (this List.mem_cons_self).elim
theorem fls_len (tb : Tb R) (me : Melts R) {v : Nat} (hv : v < R.length) : dm R (ned R v) v = decide ((fls R v).length = 1) := by
  cases h : dm R (ned R v) v with
  | true => rw [fls_one tb me hv h]; rfl
  | false =>
    refine (decide_eq_false fun e => ?_).symm
    obtain ⟨l, el⟩ := List.length_eq_one_iff.mp e
    have hl : l ∈ fls R v := by rw [el]; exact List.mem_cons_self
    obtain ⟨h1, h2⟩ := fls_mem.mp hl
    obtain ⟨h3, h4⟩ := frl_iff.mp h2
    have sub : ∀ x ∈ l, x ∈ ned R v := fun x hx => ned_iff.mpr ⟨h1.subset hx, by
      cases z : dm R (less (pin R v) x) v with
      | false => rfl
      | true =>
        obtain ⟨m, m1, m2⟩ := free_in _ _ v (Nat.le_refl _) z
        have : m ∈ fls R v := fls_mem.mpr ⟨m1.trans (less_sub _ _), m2⟩
        rw [el] at this
        rw [List.mem_singleton.mp this] at m1
        exact ((mem_less.mp (m1.subset hx)).2 rfl).elim⟩
    have := dm_more tb me hv h3 sub fun x hx => pin_ok x (ned_iff.mp hx).1
    rw [h] at this
    cases this
end
end K31

set_option maxRecDepth 100000
set_option maxHeartbeats 1000000
/-! enumerate of a tuple: as the library's own rule of a list -/
namespace Kh
open PySem PySem.Spec PyProof.Rows L2
open Sem (wp)
open AutoSeq1 (wpAny_loadPart')
def IteT (K : PySem.W.Frag) (a : Addr) : It :=
  ⟨fun i H => ∃ (xs : List V) (x : V), SqT K H a xs ∧ xs[i]? = some x, fun i H v H' => ∃ T x, v = .ref T ∧ H T = none ∧ H' = upd H T (.tup [.int (i : Nat), x]) ∧ ∀ xs, SqT K H a xs → xs[i]? = some x, fun i H => ∃ xs : List V, SqT K H a xs ∧ xs.length ≤ i⟩
theorem enum_end_tup {prog : Program} {w : World} {A : Around} {E : Value → Shared → Prop} {s : Shared} {e it l : Addr} {i : Nat} {items : Array Value} {old : Value} {Q : Option Value → Shared → Prop} (hh : A.handled = none)
    (he : IsEnum s.heap e it i old) (hit : s.heap.IsTupleIter it l i) (hl : s.heap.IsTuple l items) (hx : items[i]? = none)
    (hQ : ∀ h', Heap.ExtBut it s.heap h' → Q none { s with heap := h' }) : wpAny (model prog w) A (pyNext (.ref e)) Q E s := by
  have hT : s.TypeIs (.ref e) "enumerate" := ⟨_, he, rfl⟩
  unfold pyNext
  refine wpAny_bind (wpAny_attempt (wpAny_callSpecial?_slot (name := Str.ofString "__next__") hT F.slot_enumerate_next
    (wpAny_call_entry F.slot_enumerate_next hT F.entry_enumerate_next ?_ (F.args_enumerate_next_1 _))))
  show wpAny _ _ (field (.ref e) 2 >>= _) _ _ _
  refine wpAny_bind (wpAny_field he rfl (x := .ref it) rfl ?_)
  refine wpAny_bind (wpAny_nextOf_tuple_end (show A.in1.handled = none from hh) hit hl hx fun h' x he' hx' => ?_)
  obtain ⟨o, ho, hc⟩ := hx'
  refine wpAny_bind (wpAny_isInstance (T := "StopIteration") (b := true) ⟨o, ho, hc⟩ isSubtype_stop ?_)
  exact wpAny_pure (hQ _ he')
/-- enumerate(a tuple): its two new cells -/
theorem meets_enumT (v : Addr) (items : Array Value) :
    Meets (Builtin.«enumerate.__new__» ⟨[.type "enumerate", .ref v], []⟩) (fun _ R s => s.heap.IsTuple v items ∧
      R (.ok (.ret (.ref (s.heap.push { cls := .type "tuple_iterator", data := .fields #[.ref v, .int 0 0] }).objs.size))) { s with heap := (s.heap.push { cls := .type "tuple_iterator", data := .fields #[.ref v, .int 0 0] }).push { cls := .type "enumerate", data := .fields #[.none, .bool false, .ref s.heap.objs.size, rawInt 0, .none, .none] } }) :=
  .of_wp fun prog w A R s h => by
    obtain ⟨hp, g, d, tk, os⟩ := s; obtain ⟨h1, h⟩ := h
    have hsub := sub_enumerate
    have q1 : ∀ {A' : Around} {E : Value → Shared → Prop} {Q : Value → Shared → Prop}, Q (.ref hp.objs.size) ⟨hp.push { cls := .type "tuple_iterator", data := .fields #[.ref v, .int 0 0] }, g, d, tk, os⟩ → wpAny (model prog w) A' (pyIter (.ref v)) Q E ⟨hp, g, d, tk, os⟩ :=
      fun q => (begins_tuple v items).iter prog w _ _ ⟨hp, g, d, tk, os⟩ _ h1 q
    obtain ⟨ol, hol, hcl, nl, hdl⟩ := id h1
    wp_walk using q1, wpAny_loadPart' hol
    refine wpAny_stack_any fun st => wpAny_pure ?_
    split
    · rename_i c _ _ _ _ _
      cases (c == Value.type "enumerate")
      · wp_walk using q1, wpAny_loadPart' hol
        exact ⟨_, rfl, h⟩
      · wp_walk using q1, wpAny_loadPart' hol
        exact ⟨_, rfl, h⟩
    · wp_walk using q1, wpAny_loadPart' hol
      exact ⟨_, rfl, h⟩
theorem turn_enumT {P : Program} {w : World} {K : PySem.W.Frag} {elts : List Expr} {kk : Nat} {tpos : Pos} (a e it : Addr) :
    Turn P w K (.Tuple elts kk tpos) (IteT K a) [e, it] e (fun i h => (∃ old, IsEnum h e it ((i : Nat) : Int) old) ∧ h.IsTupleIter it a i ∧ e ≠ it ∧ a ≠ it ∧ a ≠ e) where
  mem := by simp
  obj := fun i h st b hb => by
    obtain ⟨⟨old, he⟩, ⟨o, ho, hc, hd⟩, _⟩ := st
    have e' : b = e ∨ b = it := by simpa using hb
    rcases e' with z | z
    · rw [z]; exact ⟨_, he, fun v q => nomatch q⟩
    · rw [z]; exact ⟨o, ho, fun v q => by rw [hd] at q; cases q⟩
  keep := fun i h h' st k => let ⟨⟨old, he⟩, hi, hne⟩ := st; ⟨⟨old, k e (by simp) _ he⟩, hi.at fun o q => k it (by simp) o q, hne⟩
  item := by
    intro X hP hw hK hc i pins s σ H E I hf st hg
    subst hP hw hK
    obtain ⟨⟨old, he⟩, hit, hne, hai, hae⟩ := st
    obtain ⟨xs, x, hq, hx⟩ := hg
    obtain ⟨its, rv, p, hz⟩ := I.tuple hq
    obtain ⟨u, hu, ru⟩ := rv.get hx
    have hh : X.A.handled = none := I.ok.hd hc
    have hel : e < s.heap.objs.size := Heap.lt_size he
    have hil : it < s.heap.objs.size := by obtain ⟨_, q, _⟩ := hit; exact Heap.lt_size q
    have il : i < its.toArray.size := by
      have := (List.getElem?_eq_some_iff.mp hu).1
      simpa using this
    refine wpAny_pyNext_enum_itemD (Draws.tuple (show X.A.in1.handled = none from hh) it a hai its.toArray) he ⟨hit, show s.heap.IsTuple a its.toArray from p⟩ il hne (by simp [hne, Ne.symm hae]) fun y h' tk hy ho hst' hT hsz hk => ?_
    have ey : y = u := by
      have : its.toArray[i]? = some u := by simpa using hu
      rw [this] at hy
      exact (Option.some.inj hy).symm
    subst ey
    refine ⟨_, rfl, wpAny_letOwnedTupleGo_enum (s := { s with heap := h', toks := tk + 1 }) ho fun h'' he' sb => ?_⟩
    have hT2 : h''.get? s.heap.objs.size = some { cls := .type "tuple", data := .seq #[.int i tk, y] } := (sb.2 _ (Nat.ne_of_gt hel)).trans hT
    have new : ObjOk X.prog X.w (upd H s.heap.objs.size (.tup [.int (i : Nat), x])) h'' s.heap.objs.size (.tup [.int (i : Nat), x]) :=
      ⟨by show 2 ≤ sizeLine; decide, [.int i tk, y], .cons ⟨_, rfl⟩ (.cons ru .nil), ⟨_, hT2, rfl, _, rfl⟩⟩
    have I1 : Inv X pins σ (upd H s.heap.objs.size (.tup [.int (i : Nat), x])) { s with heap := h'', toks := tk + 1 } :=
      I.turnedNew (ch := [e, it]) (fun b ob hb q => (sb.2 b (fun z => hb (by simp [z]))).trans (hk b ob (fun z => hb (by simp [z])) (fun z => hb (by simp [z])) q)) hf (Nat.le_refl _) new
    refine ⟨.ref s.heap.objs.size, _, I1, rfl, ⟨_, x, rfl, I.hok.fresh (Nat.le_refl _), rfl, fun ys hy => by rw [I.tuple_inj hy hq]; exact hx⟩, ⟨⟨y, ?_⟩, hst'.1.at fun o q => (sb.2 it (Ne.symm hne)).trans q, hne, hai, hae⟩, fun b hb => ?_⟩
    · have e1 : ((i + 1 : Nat) : Int) = (i : Int) + 1 := by omega
      rw [e1]; exact he'
    · have hb' : b < s.heap.objs.size := by
        have e' : b = e ∨ b = it := by simpa using hb
        rcases e' with z | z
        · rw [z]; exact hel
        · rw [z]; exact hil
      rw [upd_ne (Nat.ne_of_lt hb')]
      exact (hf b hb).1
  done := by
    intro X hP hw hK hc i pins s σ H E I hf st hg
    subst hP hw hK
    obtain ⟨⟨old, he⟩, hit, hne, hai, hae⟩ := st
    obtain ⟨xs, hq, hx⟩ := hg
    obtain ⟨its, rv, p, hz⟩ := I.tuple hq
    obtain ⟨f0, f1, f2, f3, f4, f5⟩ := hf it (by simp)
    have hl := rv.length
    exact enum_end_tup (I.ok.hd hc) he hit (show s.heap.IsTuple a its.toArray from p) (by simp; omega) fun h' eb => ⟨rfl, I.turned (t' := s.toks) (fun b o hb q => eb b o hb q) f0 f1 f3 f4 f5⟩
  self := fun A i s Q E st h => let ⟨⟨_, he⟩, _⟩ := st; wpAny_pyIter_enum he h
theorem call_enumT {prog : Program} {w : World} {A : Around} {E : Value → Shared → Prop} {s : Shared} {l : Addr} {items : Array Value} {Q : Value → Shared → Prop} (hL : s.heap.IsTuple l items)
    (h : ∀ h', IsEnum h' (s.heap.objs.size + 1) s.heap.objs.size 0 .none → h'.IsTupleIter s.heap.objs.size l 0 → h'.objs.size = s.heap.objs.size + 2 →
      (∀ b o, s.heap.get? b = some o → h'.get? b = some o) → Q (.ref (s.heap.objs.size + 1)) { s with heap := h' }) :
    wpAny (model prog w) A (call (.type "enumerate") [.ref l]) Q E s := by
  refine callType_new F.called_enumerate (by decide) (F.typeCall_enumerate_1 _) (F.newCall_enumerate_1 _) (fun obj => F.args_object_init_2 obj _) F.entry_enumerate_new
    (meets_enumT l items) ⟨hL, ?_⟩
  have hz : (s.heap.push { cls := .type "tuple_iterator", data := .fields #[.ref l, .int 0 0] }).objs.size = s.heap.objs.size + 1 := Heap.size_push ..
  show _ ∧ _
  rw [hz]
  have he : IsEnum ((s.heap.push { cls := .type "tuple_iterator", data := .fields #[.ref l, .int 0 0] }).push
      { cls := .type "enumerate", data := .fields #[.none, .bool false, .ref s.heap.objs.size, rawInt 0, .none, .none] }) (s.heap.objs.size + 1) s.heap.objs.size 0 .none := by
    have := Heap.get?_push_size (s.heap.push { cls := .type "tuple_iterator", data := .fields #[.ref l, .int 0 0] })
      (o := { cls := .type "enumerate", data := .fields #[.none, .bool false, .ref s.heap.objs.size, rawInt 0, .none, .none] }) rfl
    rw [hz] at this; exact this
  refine ⟨⟨_, he, rfl⟩, h _ he ⟨_, Heap.get?_push_of_some _ (Heap.get?_push_size _ rfl), rfl, rfl⟩ (by rw [Heap.size_push, hz]) fun b o x => Heap.get?_push_of_some _ (Heap.get?_push_of_some _ x)⟩
def iEnumT (K : PySem.W.Frag) (ta : TA) : TI := fun σ H R => ta σ H fun vs H1 => ∃ a xs, vs = [.ref a] ∧ SqT K H1 a xs ∧ R (IteT K a) H1
theorem pi_enumT {X : Cx} {e : Expr} {ta : TA} {p pos tpos : Pos} {elts : List Expr} {kk : Nat} (hg : Gl X "enumerate") (hm : X.mg "enumerate" = none) (ha : PA X [e] ta) (hs : starEach [e] X.env = [(false, eval e X.env)] := by rfl) :
    PI X (.Tuple elts kk tpos) (.Call (.Name "enumerate" p) [e] [] pos) (iEnumT X.K ta) := by
  refine ⟨fun pins s σ H R I h => ?_⟩
  refine Call_ (ld_blt I hg hm boot_enumerate (PyProof.Rows.callWith_type1 (thn (ha.run pos pins s σ H _ I h) fun us s1 ⟨vs, H1, I1, r1, q1⟩ => ?_) hs rfl))
  obtain ⟨a, xs, ex, hq, q⟩ := q1
  subst ex
  cases r1 with
  | cons r rr =>
    cases rr
    cases r
    obtain ⟨its, rv, p', hz⟩ := I1.tuple hq
    have hT : s1.heap.IsTuple a its.toArray := p'
    have al : a < s1.heap.objs.size := by obtain ⟨o, ho, _⟩ := hT; exact Heap.lt_size ho
    refine call_enumT hT fun h' he hit hsz hk => wpAny_pyIter_enum he ?_
    have I2 : Inv X pins σ H1 { s1 with heap := h' } := I1.kept (t' := s1.toks) hk
    refine ⟨s1.heap.objs.size + 1, [s1.heap.objs.size + 1, s1.heap.objs.size], _, _, H1, rfl, I2, turn_enumT a (s1.heap.objs.size + 1) s1.heap.objs.size, ⟨⟨.none, he⟩, hit, Nat.succ_ne_self _, Nat.ne_of_lt al, Nat.ne_of_lt (Nat.lt_succ_of_lt al)⟩, fun b hb => ?_, q⟩
    have e' : b = s1.heap.objs.size + 1 ∨ b = s1.heap.objs.size := by simpa using hb
    have hle : s1.heap.objs.size ≤ b := by
      rcases e' with z | z
      · rw [z]; exact Nat.le_add_right _ _
      · rw [z]; exact Nat.le_refl _
    exact I1.fpOk hle (I1.hok.fresh hle)
/-- enumerate of a list or a tuple -/
def iEn (K : PySem.W.Frag) (ta : TA) : TI := fun σ H R => iEnum K ta σ H R ∨ iEnumT K ta σ H R
theorem pi_en {X : Cx} {K : PySem.W.Frag} {e : Expr} {ta : TA} {p pos tpos : Pos} {elts : List Expr} {kk : Nat} (hg : Gl X "enumerate") (hm : X.mg "enumerate" = none) (ha : PA X [e] ta) (h : X.K = K := by rfl) (hs : starEach [e] X.env = [(false, eval e X.env)] := by rfl) :
    PI X (.Tuple elts kk tpos) (.Call (.Name "enumerate" p) [e] [] pos) (iEn K ta) := by
  subst h
  exact ⟨fun pins s σ H R I h => h.elim ((pi_enum hg hm ha hs).run pins s σ H R I) ((pi_enumT hg hm ha hs).run pins s σ H R I)⟩
theorem walk_enumT {K : PySem.W.Frag} {a : Addr} {xs : List V} : Walk (IteT K a) xs.length (fun H => SqT K H a xs) (YPair (fun i => some (.int (i : Nat))) (fun i => xs[i]?)) := by
  refine ⟨fun i _ hi q => ⟨xs, xs[i], q, by simp [hi]⟩, fun _ q => ⟨xs, q, Nat.le_refl _⟩, fun i H v H' _ q y => ?_⟩
  obtain ⟨T, x, h1, h2, h3, h4⟩ := y
  exact ⟨T, .int (i : Nat), x, h1, h2, h3, rfl, h4 xs q⟩
end Kh

set_option maxRecDepth 100000
set_option maxHeartbeats 1000000
/-! zip of any number of lists, its tuples kept by a name -/
namespace Kh
open PySem PySem.Spec PyProof.Rows L2
section
variable {prog : Program} {w : World} {A : Around} {E : Value → Shared → Prop} {s : Shared}
theorem wpAny_alive {M : Model} {a : Addr} {Q : Option Obj → Shared → Prop} (h : Q (s.heap.get? a) s) : wpAny M A (loadIfAlive a) Q E s := fun Γ p _ => by
  show Sem.wp M Γ (.loadIfAlive a .pure) _ _ p s
  rw [Sem.wp_loadIfAlive]; exact h
theorem wp_forIn {M : Model} {α β : Type} {f : α → β → Sem (ForInStep β)} {l : List α} (b : Nat → β) (P : Nat → Shared → Prop) {Q : β → Shared → Prop} {b0 : β} (hb : b0 = b 0) (h0 : P 0 s)
    (turn : ∀ i x s', l[i]? = some x → P i s' → wpAny M A (f x (b i)) (fun r s2 => r = .yield (b (i + 1)) ∧ P (i + 1) s2) E s') (fin : ∀ s', P l.length s' → Q (b l.length) s') : wpAny M A (forIn l b0 f) Q E s := by
  subst hb
  refine wpAny_forIn_list f (fun L c s' => ∃ i, i ≤ l.length ∧ L = l.drop i ∧ c = b i ∧ P i s') Q (fun x rest c s' h => ?_) (fun c s' h => ?_) l (b 0) ⟨0, Nat.zero_le _, rfl, rfl, h0⟩
  · obtain ⟨i, hi, e, rfl, hp⟩ := h
    have hl : i < l.length := by
      refine Nat.lt_of_le_of_ne hi fun z => ?_
      rw [z, List.drop_length] at e; cases e
    rw [List.drop_eq_getElem_cons hl] at e
    obtain ⟨rfl, rfl⟩ := List.cons.inj e
    refine wpAny_mono (turn i _ s' (List.getElem?_eq_getElem hl) hp) (fun r s2 hr => ?_) fun _ _ z => z
    obtain ⟨rfl, hp'⟩ := hr
    exact ⟨i + 1, hl, rfl, rfl, hp'⟩
  · obtain ⟨i, hi, e, rfl, hp⟩ := h
    have : i = l.length := by
      have := congrArg List.length e
      rw [List.length_nil, List.length_drop] at this; omega
    subst this; exact fin s' hp
abbrev ZipObj (f : Value) (g : Bool) (TI TO : Addr) : Obj := { cls := .type "zip", dict := none, data := .fields #[f, .bool g, .bool false, .ref TI, .ref TO], slots := #[] }
structure ZN (h : Heap) (z TI TO : Addr) (its ls : List Addr) (pos : Nat) : Prop where
  zip : ∃ f g, h.get? z = some (ZipObj f g TI TO) ∧ (f = .none ∨ ∃ T : Addr, f = rawInt T)
  ti : h.get? TI = some { cls := .type "tuple", data := .seq (its.map Value.ref).toArray }
  to : ∃ ys : Array Value, h.get? TO = some { cls := .type "tuple", data := .seq ys } ∧ ys.size = its.length
  it : ∀ (k : Nat) i l, its[k]? = some i → ls[k]? = some l → h.IsListIter i l pos
structure Ap (z TI TO : Addr) (its ls : List Addr) : Prop where
  len : ls.length = its.length
  zT : TI ≠ z
  zO : TO ≠ z
  tO : TI ≠ TO
  zi : ∀ i ∈ its, i ≠ z
  ti : ∀ i ∈ its, i ≠ TI
  oi : ∀ i ∈ its, i ≠ TO
  nd : its.Nodup
  lz : ∀ l ∈ ls, l ≠ z
  lo : ∀ l ∈ ls, l ≠ TO
  li : ∀ l ∈ ls, l ∉ its
theorem owned_free {z TI TO : Addr} {f : Value} {g : Bool} {Q : Bool → Shared → Prop} (hz : s.heap.get? z = some (ZipObj f g TI TO)) (hf : f = .none ∨ ∃ T : Addr, f = rawInt T) (yes : Q true s)
    (no : ∀ h', h'.get? z = some (ZipObj f true TI TO) → Heap.SameBut z s.heap h' → Q false { s with heap := h' }) : wpAny (model prog w) A (Builtin.SmallTypes.ownedTupleIsFree (.ref z)) Q E s := by
  unfold Builtin.SmallTypes.ownedTupleIsFree
  refine wpAny_bind (wpAny_field hz rfl (x := f) rfl ?_)
  rcases hf with rfl | ⟨T0, rfl⟩
  · exact wpAny_pure yes
  · show wpAny _ _ (loadIfAlive _ >>= _) _ _ _
    refine wpAny_bind (wpAny_alive ?_)
    cases hT : s.heap.get? ((T0 : Int)).toNat with
    | none => exact wpAny_pure yes
    | some o =>
      show wpAny _ _ (field (.ref z) 1 >>= _) _ _ _
      refine wpAny_bind (wpAny_field hz rfl (x := .bool g) rfl ?_)
      cases g with
      | true => exact wpAny_pure (no _ hz (Heap.SameBut.refl _ _))
      | false =>
        show wpAny _ _ (setField (.ref z) 1 (.bool true) >>= _) _ _ _
        refine wpAny_bind (wpAny_setField_rec hz (by simp) fun h₁ hz₁ hs₁ => wpAny_pure (no h₁ hz₁ hs₁))
theorem zipN_next {z TI TO : Addr} {its ls : List Addr} {pos : Nat} {vs : List Value} {Q : Value → Shared → Prop} (D : Ap z TI TO its ls) (st : ZN s.heap z TI TO its ls pos) (ne : its ≠ []) (sz : its.length ≤ 1000)
    (lv : vs.length = its.length) (hl : ∀ (k : Nat) l v, ls[k]? = some l → vs[k]? = some v → ∃ xs, s.heap.IsList l xs ∧ xs[pos]? = some v)
    (hQ : ∀ h', ZN h' z TI TO its ls (pos + 1) → h'.get? s.heap.objs.size = some { cls := .type "tuple", data := .seq vs.toArray } → h'.objs.size = s.heap.objs.size + 1 → (∀ c o, c ≠ z → c ≠ TO → c ∉ its → s.heap.get? c = some o → h'.get? c = some o) → Q (.ref s.heap.objs.size) { s with heap := h' }) :
    wpAny (model prog w) A (Builtin.«zip.__next__» ⟨[.ref z], []⟩) (fun fin s' => ∃ v, fin = .done (.ret v) ∧ Q v s') E s := by
  obtain ⟨⟨f, g, hz, hf⟩, hTI, ⟨ys, hTO, lys⟩, hit⟩ := st
  have emp : (its.map Value.ref).toArray.isEmpty = false := by
    cases its with
    | nil => exact (ne rfl).elim
    | cons a b => rfl
  show wpAny _ _ (field (.ref z) 2 >>= _) _ _ _
  refine wpAny_bind (wpAny_field hz rfl (x := .bool false) rfl ?_)
  show wpAny _ _ (field (.ref z) 3 >>= _) _ _ _
  refine wpAny_bind (wpAny_field hz rfl (x := .ref TI) rfl ?_)
  refine wpAny_bind (wpAny_seqItems hTI rfl ?_)
  simp only [emp, Bool.false_eq_true, if_false]
  refine wpAny_bind (owned_free hz hf ?_ fun h1 hz1 hs1 => ?_)
  · simp only [if_true]
    refine wpAny_bind (wpAny_rule ?_)
    refine wpAny_bind (wpAny_field hz rfl (x := .ref TO) rfl ?_)
    refine wpAny_bind (wpAny_setField_rec hz (by simp) fun h₁ hz₁ hs₁ => ?_)
    replace hz₁ : h₁.get? z = some (ZipObj .ellipsis g TI TO) := hz₁
    refine wpAny_bind (wp_forIn (l := (its.map Value.ref).toArray.toList.zipIdx) (fun _ => ⟨none, PUnit.unit⟩) (fun i s' => ∃ h', s' = { s with heap := h' } ∧ h'.get? z = some (ZipObj .ellipsis g TI TO) ∧ (∃ ys' : Array Value, h'.get? TO = some { cls := .type "tuple", data := .seq ys' } ∧ ys'.size = its.length ∧ ∀ j, j < i → ys'[j]? = vs[j]?) ∧
        (∀ (k : Nat) it l, its[k]? = some it → ls[k]? = some l → h'.IsListIter it l (if k < i then pos + 1 else pos)) ∧ h'.objs.size = s.heap.objs.size ∧ (∀ c o, c ≠ z → c ≠ TO → c ∉ its → s.heap.get? c = some o → h'.get? c = some o)) rfl ?_ ?_ ?_)
    · refine ⟨h₁, rfl, hz₁, ⟨ys, (hs₁.2 _ D.zO).trans hTO, lys, fun j hj => absurd hj (Nat.not_lt_zero j)⟩, fun k it l h1 h2 => ?_, hs₁.1, fun c o c1 _ _ e => (hs₁.2 c c1).trans e⟩
      rw [if_neg (Nat.not_lt_zero k)]
      exact (hit k it l h1 h2).at fun o e => (hs₁.2 it (D.zi it (List.mem_of_getElem? h1))).trans e
    · rintro i x s' hx ⟨h', rfl, hz', ⟨ys', hTO', ly', py'⟩, it', sz', kp'⟩
      rw [List.getElem?_zipIdx, List.toList_toArray, List.getElem?_map] at hx
      cases hi : its[i]? with
      | none => rw [hi] at hx; cases hx
      | some it =>
        rw [hi] at hx
        obtain rfl := (Option.some.inj hx).symm
        have il : i < its.length := (List.getElem?_eq_some_iff.mp hi).1
        obtain ⟨l, hli⟩ : ∃ l, ls[i]? = some l := ⟨_, List.getElem?_eq_getElem (by rw [D.len]; exact il)⟩
        obtain ⟨v, hvi⟩ : ∃ v, vs[i]? = some v := ⟨_, List.getElem?_eq_getElem (by rw [lv]; exact il)⟩
        obtain ⟨xs, hxs, hxp⟩ := hl i l v hli hvi
        have im := List.mem_of_getElem? hi
        have lm := List.mem_of_getElem? hli
        have hit' := it' i it l hi hli
        rw [if_neg (Nat.lt_irrefl i)] at hit'
        have hl' : h'.IsList l xs := hxs.at fun o e => kp' l o (D.lz l lm) (D.lo l lm) (D.li l lm) e
        refine wpAny_bind (wpAny_onRaise ?_)
        show wpAny _ _ (Builtin.SmallTypes.nextOf (.ref it) >>= _) _ _ _
        refine wpAny_bind (wpAny_nextOf_list_item hit' hl' hxp fun h₂ hit₂ hs₂ => wpAny_pure ?_)
        have hTO₂ : h₂.get? TO = some { cls := .type "tuple", data := .seq ys' } := (hs₂.2 _ (fun z => D.oi it im z.symm)).trans hTO'
        refine wpAny_bind (wpAny_seqItems hTO₂ rfl ?_)
        refine wpAny_bind (wpAny_updateSeq hTO₂ rfl ?_ (Nat.le_trans (by omega) (show 1000 ≤ sizeLine by decide)) (Nat.le_trans (by rw [Array.size_setIfInBounds]; omega) (show 1000 ≤ sizeLine + 1 by decide)))
        have up : (h₂.update TO (Obj.mapSeq fun x => x.setIfInBounds (0 + i) v)).get? TO = some { cls := .type "tuple", data := .seq (ys'.setIfInBounds (0 + i) v) } := by
          rw [Heap.get?_update_self _ hTO₂ rfl]; simp [Obj.mapSeq]
        have ub : Heap.SameBut TO h₂ (h₂.update TO (Obj.mapSeq fun x => x.setIfInBounds (0 + i) v)) := Heap.SameBut.update ..
        generalize h₂.update TO (Obj.mapSeq fun x => x.setIfInBounds (0 + i) v) = h₃ at up ub
        refine wpAny_bind (wpAny_letGo (wpAny_pure ⟨rfl, h₃, rfl, ?_, ⟨_, up, ?_, ?_⟩, ?_, ?_, ?_⟩))
        · exact (ub.2 _ D.zO.symm).trans ((hs₂.2 _ (D.zi it im).symm).trans hz')
        · rw [Array.size_setIfInBounds, ly']
        · intro j hj
          rw [Nat.zero_add]
          by_cases e : j = i
          · subst e
            rw [Array.getElem?_setIfInBounds_self_of_lt (by rw [ly']; exact il), hvi]
          · rw [Array.getElem?_setIfInBounds_ne (fun z => e z.symm)]
            exact py' j (by omega)
        · intro k it2 l2 hk hk2
          by_cases e : k = i
          · subst e
            rw [hi] at hk
            cases hk
            rw [hli] at hk2
            cases hk2
            rw [if_pos (Nat.lt_succ_self k)]
            exact hit₂.at fun o e => (ub.2 _ (D.oi it im)).trans e
          · have h1 := it' k it2 l2 hk hk2
            have ne2 : it2 ≠ it := fun z => by
              subst z
              obtain ⟨p1, q1⟩ := List.getElem?_eq_some_iff.mp hk
              obtain ⟨p2, q2⟩ := List.getElem?_eq_some_iff.mp hi
              exact e ((List.getElem_inj (h₀ := p1) (h₁ := p2) D.nd).mp (q1.trans q2.symm))
            have e3 : (if k < i + 1 then pos + 1 else pos) = (if k < i then pos + 1 else pos) := by
              by_cases q : k < i
              · rw [if_pos q, if_pos (by omega)]
              · rw [if_neg q, if_neg (by omega)]
            rw [e3]
            exact h1.at fun o x => (ub.2 _ (D.oi it2 (List.mem_of_getElem? hk))).trans ((hs₂.2 _ ne2).trans x)
        · rw [ub.1, hs₂.1, sz']
        · intro c o c1 c2 c3 x
          exact (ub.2 _ c2).trans ((hs₂.2 _ (fun z => c3 (by rw [z]; exact im))).trans (kp' c o c1 c2 c3 x))
    · rintro s' ⟨h', rfl, hz', ⟨ys', hTO', ly', py'⟩, it', sz', kp'⟩
      have ll : (its.map Value.ref).toArray.toList.zipIdx.length = its.length := by simp
      rw [ll] at py' it'
      have ey : ys' = vs.toArray := by
        have : ys'.toList = vs := List.ext_getElem? fun j => by
          rw [Array.getElem?_toList]
          by_cases hj : j < its.length
          · exact py' j hj
          · rw [Array.getElem?_eq_none (by omega), List.getElem?_eq_none (by omega)]
        rw [← this]
      subst ey
      refine wpAny_bind (wpAny_seqItems hTO' rfl ?_)
      refine wpAny_bind (wpAny_newTuple ?_)
      show wpAny _ _ (Builtin.SmallTypes.ownedTupleHandOut (.ref z) (.ref h'.objs.size) >>= _) _ _ _
      refine wpAny_bind ?_
      unfold Builtin.SmallTypes.ownedTupleHandOut
      have hz6 : (h'.push { cls := .type "tuple", data := .seq vs.toArray }).get? z = some (ZipObj .ellipsis g TI TO) := Heap.get?_push_of_some _ hz'
      refine wpAny_bind (wpAny_setField_rec hz6 (by simp) fun h7 hz7 hs7 => ?_)
      replace hz7 : h7.get? z = some (ZipObj (rawInt h'.objs.size) g TI TO) := hz7
      refine wpAny_setField_rec hz7 (by simp) fun h8 hz8 hs8 => ?_
      replace hz8 : h8.get? z = some (ZipObj (rawInt h'.objs.size) false TI TO) := hz8
      have up : ∀ c o, c ≠ z → h'.get? c = some o → h8.get? c = some o := fun c o c1 e => (hs8.2 _ c1).trans ((hs7.2 _ c1).trans (Heap.get?_push_of_some _ e))
      have zl : z < h'.objs.size := Heap.lt_size hz'
      have hT : h8.get? h'.objs.size = some { cls := .type "tuple", data := .seq vs.toArray } := (hs8.2 _ (Nat.ne_of_gt zl)).trans ((hs7.2 _ (Nat.ne_of_gt zl)).trans (Heap.get?_push_size _ rfl))
      have sz8 : h8.objs.size = h'.objs.size + 1 := by rw [hs8.1, hs7.1, Heap.size_push]
      rw [sz'] at hz8 hT sz8
      refine wpAny_pure ⟨_, rfl, ?_⟩
      show Q (.ref h'.objs.size) _
      rw [sz']
      refine hQ h8 ⟨⟨_, false, hz8, .inr ⟨_, rfl⟩⟩, up _ _ D.zT (kp' _ _ D.zT D.tO (fun m => D.ti _ m rfl) hTI), ⟨_, up _ _ D.zO hTO', by simpa using lv⟩, fun k it l h1 h2 => ?_⟩ hT sz8 fun c o c1 c2 c3 e => up c o c1 (kp' c o c1 c2 c3 e)
      have h3 := it' k it l h1 h2
      rw [if_pos (List.getElem?_eq_some_iff.mp h1).1] at h3
      exact h3.at fun o e => up it o (D.zi it (List.mem_of_getElem? h1)) e
  · simp only [Bool.false_eq_true, if_false]
    rw [← Array.forIn_toList]
    refine wpAny_bind (wp_forIn (fun i => ⟨none, (vs.take i).toArray⟩) (fun i s' => ∃ h', s' = { s with heap := h' } ∧ h'.get? z = some (ZipObj f true TI TO) ∧
        (∀ (k : Nat) it l, its[k]? = some it → ls[k]? = some l → h'.IsListIter it l (if k < i then pos + 1 else pos)) ∧ h'.objs.size = s.heap.objs.size ∧ (∀ c o, c ≠ z → c ∉ its → s.heap.get? c = some o → h'.get? c = some o)) rfl ?_ ?_ ?_)
    · refine ⟨h1, rfl, hz1, fun k it l e1 e2 => ?_, hs1.1, fun c o c1 _ e => (hs1.2 c c1).trans e⟩
      rw [if_neg (Nat.not_lt_zero k)]
      exact (hit k it l e1 e2).at fun o e => (hs1.2 it (D.zi it (List.mem_of_getElem? e1))).trans e
    · rintro i x s' hx ⟨h', rfl, hz', it', sz', kp'⟩
      rw [List.toList_toArray, List.getElem?_map] at hx
      cases hi : its[i]? with
      | none => rw [hi] at hx; cases hx
      | some it =>
        rw [hi] at hx
        obtain rfl := (Option.some.inj hx).symm
        have il : i < its.length := (List.getElem?_eq_some_iff.mp hi).1
        obtain ⟨l, hli⟩ : ∃ l, ls[i]? = some l := ⟨_, List.getElem?_eq_getElem (by rw [D.len]; exact il)⟩
        obtain ⟨v, hvi⟩ : ∃ v, vs[i]? = some v := ⟨_, List.getElem?_eq_getElem (by rw [lv]; exact il)⟩
        obtain ⟨xs, hxs, hxp⟩ := hl i l v hli hvi
        have im := List.mem_of_getElem? hi
        have lm := List.mem_of_getElem? hli
        have hit' := it' i it l hi hli
        rw [if_neg (Nat.lt_irrefl i)] at hit'
        have hl' : h'.IsList l xs := hxs.at fun o e => kp' l o (D.lz l lm) (D.li l lm) e
        refine wpAny_bind (wpAny_holding ?_)
        show wpAny _ _ (Builtin.SmallTypes.nextOf (.ref it) >>= _) _ _ _
        refine wpAny_bind (wpAny_nextOf_list_item hit' hl' hxp fun h₂ hit₂ hs₂ => wpAny_pure ?_)
        refine wpAny_pure ⟨?_, h₂, rfl, (hs₂.2 _ (D.zi it im).symm).trans hz', fun k it2 l2 hk hk2 => ?_, by rw [hs₂.1, sz'], fun c o c1 c3 x => (hs₂.2 _ (fun z => c3 (by rw [z]; exact im))).trans (kp' c o c1 c3 x)⟩
        · rw [List.take_add_one, hvi]; simp
        · by_cases e : k = i
          · subst e
            rw [hi] at hk
            cases hk
            rw [hli] at hk2
            cases hk2
            rw [if_pos (Nat.lt_succ_self k)]
            exact hit₂
          · have h1 := it' k it2 l2 hk hk2
            have ne2 : it2 ≠ it := fun z => by
              subst z
              obtain ⟨p1, q1⟩ := List.getElem?_eq_some_iff.mp hk
              obtain ⟨p2, q2⟩ := List.getElem?_eq_some_iff.mp hi
              exact e ((List.getElem_inj (h₀ := p1) (h₁ := p2) D.nd).mp (q1.trans q2.symm))
            have e3 : (if k < i + 1 then pos + 1 else pos) = (if k < i then pos + 1 else pos) := by
              by_cases q : k < i
              · rw [if_pos q, if_pos (by omega)]
              · rw [if_neg q, if_neg (by omega)]
            rw [e3]
            exact h1.at fun o x => (hs₂.2 _ ne2).trans x
    · rintro s' ⟨h', rfl, hz', it', sz', kp'⟩
      have ll : (its.map Value.ref).toArray.toList.length = its.length := by simp
      rw [ll] at it' ⊢
      have ev : vs.take its.length = vs := List.take_of_length_le (by omega)
      rw [ev]
      refine wpAny_bind (wpAny_newTuple ?_)
      have up : ∀ c o, h'.get? c = some o → (h'.push { cls := .type "tuple", data := .seq vs.toArray }).get? c = some o := fun c o e => Heap.get?_push_of_some _ e
      have hT : (h'.push { cls := .type "tuple", data := .seq vs.toArray }).get? h'.objs.size = some { cls := .type "tuple", data := .seq vs.toArray } := Heap.get?_push_size _ rfl
      have sz8 : (h'.push { cls := .type "tuple", data := .seq vs.toArray }).objs.size = h'.objs.size + 1 := Heap.size_push ..
      refine wpAny_pure ⟨_, rfl, ?_⟩
      show Q (.ref h'.objs.size) { s with heap := h'.push { cls := .type "tuple", data := .seq vs.toArray } }
      generalize h'.push { cls := .type "tuple", data := .seq vs.toArray } = h8 at up hT sz8
      rw [sz'] at hT sz8 ⊢
      refine hQ h8 ⟨⟨_, true, up _ _ hz', hf⟩, up _ _ (kp' _ _ D.zT (fun m => D.ti _ m rfl) hTI), ⟨_, up _ _ (kp' _ _ D.zO (fun m => D.oi _ m rfl) hTO), lys⟩, fun k it l h1 h2 => ?_⟩ hT sz8 fun c o c1 c2 c3 e => up c o (kp' c o c1 c3 e)
      have h3 := it' k it l h1 h2
      rw [if_pos (List.getElem?_eq_some_iff.mp h1).1] at h3
      exact h3.at fun o e => up it o e
theorem zipN_end {z TI TO : Addr} {its ls : List Addr} {pos : Nat} {Q : Fin → Shared → Prop} (hh : A.handled = none) (D : Ap z TI TO its ls) (st : ZN s.heap z TI TO its ls pos) (ne : its ≠ [])
    (hl : ∀ l, ls[0]? = some l → ∃ xs, s.heap.IsList l xs ∧ xs[pos]? = none)
    (hE : ∀ h' e, (∀ c o, c ≠ z → c ≠ TO → c ∉ its → s.heap.get? c = some o → h'.get? c = some o) → (∃ o, h'.get? e = some o ∧ o.cls = .type "StopIteration") → E (.ref e) { s with heap := h' }) :
    wpAny (model prog w) A (Builtin.«zip.__next__» ⟨[.ref z], []⟩) Q E s := by
  obtain ⟨⟨f, g, hz, hf⟩, hTI, ⟨ys, hTO, lys⟩, hit⟩ := st
  obtain ⟨i0, rest, rfl⟩ : ∃ a b, its = a :: b := by
    cases its with
    | nil => exact (ne rfl).elim
    | cons a b => exact ⟨a, b, rfl⟩
  obtain ⟨l0, hl0⟩ : ∃ l, ls[0]? = some l := ⟨_, List.getElem?_eq_getElem (by rw [D.len]; exact Nat.succ_pos _)⟩
  obtain ⟨xs, hxs, hxp⟩ := hl l0 hl0
  have lm := List.mem_of_getElem? hl0
  have hit0 := hit 0 i0 l0 rfl hl0
  show wpAny _ _ (field (.ref z) 2 >>= _) _ _ _
  refine wpAny_bind (wpAny_field hz rfl (x := .bool false) rfl ?_)
  show wpAny _ _ (field (.ref z) 3 >>= _) _ _ _
  refine wpAny_bind (wpAny_field hz rfl (x := .ref TI) rfl ?_)
  refine wpAny_bind (wpAny_seqItems hTI rfl ?_)
  have emp : ((i0 :: rest).map Value.ref).toArray.isEmpty = false := rfl
  simp only [emp, Bool.false_eq_true, if_false]
  have i0z := D.zi i0 List.mem_cons_self
  refine wpAny_bind (owned_free hz hf ?_ fun h1 hz1 hs1 => ?_)
  · simp only [if_true]
    refine wpAny_bind (wpAny_rule ?_)
    refine wpAny_bind (wpAny_field hz rfl (x := .ref TO) rfl ?_)
    refine wpAny_bind (wpAny_setField_rec hz (by simp) fun h₁ hz₁ hs₁ => ?_)
    replace hz₁ : h₁.get? z = some (ZipObj .ellipsis g TI TO) := hz₁
    refine wpAny_bind (wp_forIn (l := ((i0 :: rest).map Value.ref).toArray.toList.zipIdx) (fun _ => ⟨none, PUnit.unit⟩) (fun i s' => i = 0 ∧ s' = { s with heap := h₁ }) rfl ⟨rfl, rfl⟩ ?_ fun s' h => by simp at h)
    rintro i x s' hx ⟨rfl, rfl⟩
    obtain rfl := (Option.some.inj hx).symm
    refine wpAny_bind (wpAny_onRaise ?_)
    show wpAny _ _ (Builtin.SmallTypes.nextOf (.ref i0) >>= _) _ _ _
    refine wpAny_bind (wpAny_nextOf_list_end hh (hit0.extBut hs₁.extBut i0z) (hxs.extBut hs₁.extBut (D.lz l0 lm)) hxp fun h₂ e hs₂ he => ?_)
    obtain ⟨oe, hoe, hce⟩ := he
    have hz₂ : h₂.get? z = some (ZipObj .ellipsis g TI TO) := hs₂ _ _ i0z.symm hz₁
    have hez : e ≠ z := fun x => by subst x; rw [hz₂] at hoe; cases hoe; simp at hce
    refine wpAny_setField_rec hz₂ (by simp) fun h₃ _ hs₃ => hE h₃ e (fun c o c1 _ c3 x => hs₃.extBut _ _ c1 (hs₂ _ _ (fun z => c3 (by rw [z]; exact List.mem_cons_self)) (hs₁.extBut _ _ c1 x))) ⟨oe, hs₃.extBut _ _ hez hoe, hce⟩
  · simp only [Bool.false_eq_true, if_false]
    rw [← Array.forIn_toList]
    refine wpAny_bind (wp_forIn (fun i => ⟨none, #[]⟩) (fun i s' => i = 0 ∧ s' = { s with heap := h1 }) rfl ⟨rfl, rfl⟩ ?_ fun s' h => by simp at h)
    rintro i x s' hx ⟨rfl, rfl⟩
    obtain rfl := (Option.some.inj hx).symm
    refine wpAny_bind (wpAny_holding ?_)
    show wpAny _ _ (Builtin.SmallTypes.nextOf (.ref i0) >>= _) _ _ _
    refine wpAny_bind (wpAny_nextOf_list_end hh (hit0.extBut hs1.extBut i0z) (hxs.extBut hs1.extBut (D.lz l0 lm)) hxp fun h₂ e hs₂ he => ?_)
    exact hE h₂ e (fun c o c1 _ c3 x => hs₂ _ _ (fun z => c3 (by rw [z]; exact List.mem_cons_self)) (hs1.extBut _ _ c1 x)) he
theorem zipN_pyNext {z TI TO : Addr} {its ls : List Addr} {pos : Nat} {vs : List Value} {Q : Option Value → Shared → Prop} (D : Ap z TI TO its ls) (st : ZN s.heap z TI TO its ls pos) (ne : its ≠ []) (sz : its.length ≤ 1000)
    (lv : vs.length = its.length) (hl : ∀ (k : Nat) l v, ls[k]? = some l → vs[k]? = some v → ∃ xs, s.heap.IsList l xs ∧ xs[pos]? = some v)
    (hQ : ∀ h', ZN h' z TI TO its ls (pos + 1) → h'.get? s.heap.objs.size = some { cls := .type "tuple", data := .seq vs.toArray } → h'.objs.size = s.heap.objs.size + 1 → (∀ c o, c ≠ z → c ≠ TO → c ∉ its → s.heap.get? c = some o → h'.get? c = some o) → Q (some (.ref s.heap.objs.size)) { s with heap := h' }) :
    wpAny (model prog w) A (pyNext (.ref z)) Q E s := by
  obtain ⟨f, g, hz, hf⟩ := st.zip
  have hT : s.TypeIs (.ref z) "zip" := ⟨_, hz, rfl⟩
  unfold pyNext
  exact wpAny_bind (wpAny_attempt (wpAny_callSpecial?_slot (name := Str.ofString "__next__") hT F.slot_zip_next
    (wpAny_call_entry F.slot_zip_next hT F.entry_zip_next
      (zipN_next D st ne sz lv hl fun h' a1 a2 a3 a4 => wpAny_pure (hQ h' a1 a2 a3 a4)) (F.args_zip_next_1 _))))
theorem zipN_pyStop {z TI TO : Addr} {its ls : List Addr} {pos : Nat} {Q : Option Value → Shared → Prop} (hh : A.handled = none) (D : Ap z TI TO its ls) (st : ZN s.heap z TI TO its ls pos) (ne : its ≠ [])
    (hl : ∀ l, ls[0]? = some l → ∃ xs, s.heap.IsList l xs ∧ xs[pos]? = none)
    (hQ : ∀ h', (∀ c o, c ≠ z → c ≠ TO → c ∉ its → s.heap.get? c = some o → h'.get? c = some o) → Q none { s with heap := h' }) : wpAny (model prog w) A (pyNext (.ref z)) Q E s := by
  obtain ⟨f, g, hz, hf⟩ := st.zip
  have hT : s.TypeIs (.ref z) "zip" := ⟨_, hz, rfl⟩
  unfold pyNext
  refine wpAny_bind (wpAny_attempt (wpAny_callSpecial?_slot (name := Str.ofString "__next__") hT F.slot_zip_next
    (wpAny_call_entry F.slot_zip_next hT F.entry_zip_next (zipN_end hh D st ne hl fun h' e hk he => ?_) (F.args_zip_next_1 _))))
  obtain ⟨o, ho, hc⟩ := he
  refine wpAny_bind (wpAny_isInstance (T := "StopIteration") (b := true) ⟨o, ho, hc⟩ isSubtype_stop ?_)
  exact wpAny_pure (hQ _ hk)
theorem typeCall_zipN : ∀ vs : List Value, vs.length ≤ 8 → checkTypeCall "zip" ⟨vs, []⟩ = pure ()
  | [], _ => by kernel_rfl
  | [_], _ => by kernel_rfl
  | [_, _], _ => by kernel_rfl
  | [_, _, _], _ => by kernel_rfl
  | [_, _, _, _], _ => by kernel_rfl
  | [_, _, _, _, _], _ => by kernel_rfl
  | [_, _, _, _, _, _], _ => by kernel_rfl
  | [_, _, _, _, _, _, _], _ => by kernel_rfl
  | [_, _, _, _, _, _, _, _], _ => by kernel_rfl
  | _ :: _ :: _ :: _ :: _ :: _ :: _ :: _ :: _ :: _, h => by simp only [List.length_cons] at h; omega
theorem newCall_zipN : ∀ vs : List Value, vs.length ≤ 8 → checkBuiltinCall "zip.__new__" ⟨.type "zip" :: vs, []⟩ = pure ()
  | [], _ => by kernel_rfl
  | [_], _ => by kernel_rfl
  | [_, _], _ => by kernel_rfl
  | [_, _, _], _ => by kernel_rfl
  | [_, _, _, _], _ => by kernel_rfl
  | [_, _, _, _, _], _ => by kernel_rfl
  | [_, _, _, _, _, _], _ => by kernel_rfl
  | [_, _, _, _, _, _, _], _ => by kernel_rfl
  | [_, _, _, _, _, _, _, _], _ => by kernel_rfl
  | _ :: _ :: _ :: _ :: _ :: _ :: _ :: _ :: _ :: _, h => by simp only [List.length_cons] at h; omega
theorem args_initN (obj : Value) : ∀ vs : List Value, vs.length ≤ 8 → argsOk "object.__init__" ⟨obj :: vs, []⟩
  | [], _ => by unfold argsOk; kernel_rfl
  | [_], _ => by unfold argsOk; kernel_rfl
  | [_, _], _ => by unfold argsOk; kernel_rfl
  | [_, _, _], _ => by unfold argsOk; kernel_rfl
  | [_, _, _, _], _ => by unfold argsOk; kernel_rfl
  | [_, _, _, _, _], _ => by unfold argsOk; kernel_rfl
  | [_, _, _, _, _, _], _ => by unfold argsOk; kernel_rfl
  | [_, _, _, _, _, _, _], _ => by unfold argsOk; kernel_rfl
  | [_, _, _, _, _, _, _, _], _ => by unfold argsOk; kernel_rfl
  | _ :: _ :: _ :: _ :: _ :: _ :: _ :: _ :: _ :: _, h => by simp only [List.length_cons] at h; omega
end
end Kh

set_option maxRecDepth 100000
set_option maxHeartbeats 1000000
namespace Kh
open PySem PySem.Spec PyProof.Rows L2
section
variable {prog : Program} {w : World} {A : Around} {E : Value → Shared → Prop} {s : Shared}
theorem newClass_zip {vs : List Value} {Q : Value × List Value → Shared → Prop} (h : Q (.type "zip", vs) s) : wpAny (model prog w) A (Builtin.SmallTypes.newClass "zip" ⟨.type "zip" :: vs, []⟩) Q E s := by
  have hsub := sub_zip
  obtain ⟨hp, g, d, tk, os⟩ := s
  unfold Builtin.SmallTypes.newClass
  wp_walk
  exact h
theorem iterAll_lists {ls : List Addr} {Q : List Value → Shared → Prop} (hl : ∀ l ∈ ls, ∃ xs, s.heap.IsList l xs)
    (hQ : ∀ h', (∀ (k : Nat) l, ls[k]? = some l → h'.IsListIter (s.heap.objs.size + k) l 0) → h'.objs.size = s.heap.objs.size + ls.length → (∀ c o, s.heap.get? c = some o → h'.get? c = some o) → Q ((List.range ls.length).map fun k => Value.ref (s.heap.objs.size + k)) { s with heap := h' }) :
    wpAny (model prog w) A (Builtin.SmallTypes.iterAll (ls.map Value.ref)) Q E s := by
  unfold Builtin.SmallTypes.iterAll
  refine wpAny_bind (wp_forIn (fun i => ((List.range i).map fun k => Value.ref (s.heap.objs.size + k)).toArray) (fun i s' => ∃ h', s' = { s with heap := h' } ∧ (∀ (k : Nat) l, k < i → ls[k]? = some l → h'.IsListIter (s.heap.objs.size + k) l 0) ∧ h'.objs.size = s.heap.objs.size + i ∧ (∀ c o, s.heap.get? c = some o → h'.get? c = some o)) rfl ⟨_, rfl, fun k l h => absurd h (Nat.not_lt_zero k), rfl, fun _ _ e => e⟩ ?_ ?_)
  · rintro i x s' hx ⟨h', rfl, hit, sz, kp⟩
    rw [List.getElem?_map] at hx
    cases hi : ls[i]? with
    | none => rw [hi] at hx; cases hx
    | some l =>
      rw [hi] at hx
      obtain rfl := (Option.some.inj hx).symm
      obtain ⟨xs, hxs⟩ := hl l (List.mem_of_getElem? hi)
      have hxs' : h'.IsList l xs := hxs.at fun o e => kp l o e
      refine wpAny_bind (wpAny_holding (wpAny_pyIter_list hxs' (wpAny_pure ⟨?_, _, rfl, fun k l2 hk hk2 => ?_, ?_, fun c o e => Heap.get?_push_of_some _ (kp c o e)⟩)))
      · show ForInStep.yield _ = ForInStep.yield _
        rw [List.range_succ, List.map_append, sz]
        simp
      · by_cases e : k = i
        · subst e
          rw [hi] at hk2
          cases hk2
          refine ⟨{ cls := .type "list_iterator", data := .fields #[.ref l, .int 0 0] }, ?_, rfl, rfl⟩
          rw [← sz]
          exact Heap.get?_push_size _ rfl
        · exact (hit k l2 (by omega) hk2).at fun o e => Heap.get?_push_of_some _ e
      · show (h'.push _).objs.size = _
        rw [Heap.size_push, sz]; omega
  · rintro s' ⟨h', rfl, hit, sz, kp⟩
    rw [List.length_map] at hit sz ⊢
    refine wpAny_pure ?_
    exact hQ h' (fun k l h => hit k l (List.getElem?_eq_some_iff.mp h).1 h) sz kp
end
theorem meets_zipN (ls : List Addr) (l8 : ls.length ≤ 8) : Meets (Builtin.«zip.__new__» ⟨.type "zip" :: ls.map Value.ref, []⟩) (fun _ R s => (∀ l ∈ ls, ∃ xs, s.heap.IsList l xs) ∧
    ∀ h', h'.get? (s.heap.objs.size + ls.length + 2) = some (ZipObj .none false (s.heap.objs.size + ls.length) (s.heap.objs.size + ls.length + 1)) → h'.get? (s.heap.objs.size + ls.length) = some { cls := .type "tuple", data := .seq (((List.range ls.length).map fun k => s.heap.objs.size + k).map Value.ref).toArray } →
      (∃ ys : Array Value, h'.get? (s.heap.objs.size + ls.length + 1) = some { cls := .type "tuple", data := .seq ys } ∧ ys.size = ls.length) → (∀ (k : Nat) l, ls[k]? = some l → h'.IsListIter (s.heap.objs.size + k) l 0) → (∀ c o, s.heap.get? c = some o → h'.get? c = some o) →
      R (.ok (.ret (.ref (s.heap.objs.size + ls.length + 2)))) { s with heap := h' }) :=
  .of_wp fun prog w A R s h => by
    obtain ⟨hl, h⟩ := h
    unfold Builtin.«zip.__new__»
    refine wpAny_bind (newClass_zip ?_)
    simp only [List.length_nil, gt_iff_lt, Nat.not_lt_zero, if_false]
    refine wpAny_bind (iterAll_lists hl fun h1 hit sz kp => ?_)
    refine wpAny_bind (wpAny_newTuple (hsz := Nat.le_trans (by simp; omega) (show 8 ≤ sizeLine by decide)) ?_)
    refine wpAny_bind (wpAny_newTuple (hsz := Nat.le_trans (by simp; omega) (show 8 ≤ sizeLine by decide)) ?_)
    unfold Builtin.SmallTypes.newRecord
    refine wpAny_bind (wpAny_newObj_type ?_ (show (5 : Nat) ≤ sizeLine + 2 by decide))
    have ez : h1.objs.size = s.heap.objs.size + ls.length := sz
    have e1 : (h1.push { cls := .type "tuple", data := .seq ((List.range ls.length).map fun k => Value.ref (s.heap.objs.size + k)).toArray }).objs.size = s.heap.objs.size + ls.length + 1 := by rw [Heap.size_push, ez]
    refine wpAny_pure ⟨_, rfl, ?_⟩
    show R (.ok (.ret (.ref ((h1.push { cls := .type "tuple", data := .seq ((List.range ls.length).map fun k => Value.ref (s.heap.objs.size + k)).toArray }).push { cls := .type "tuple", data := .seq (((List.range ls.length).map fun k => Value.ref (s.heap.objs.size + k)).map fun _ => Value.none).toArray }).objs.size))) { s with heap := _ }
    have e2 : ((h1.push { cls := .type "tuple", data := .seq ((List.range ls.length).map fun k => Value.ref (s.heap.objs.size + k)).toArray }).push { cls := .type "tuple", data := .seq (((List.range ls.length).map fun k => Value.ref (s.heap.objs.size + k)).map fun _ => Value.none).toArray }).objs.size = s.heap.objs.size + ls.length + 2 := by rw [Heap.size_push, e1]
    rw [e2]
    refine h _ ?_ ?_ ⟨(((List.range ls.length).map fun k => Value.ref (s.heap.objs.size + k)).map fun _ => Value.none).toArray, ?_, by simp⟩ (fun k l hk => ?_) fun c o e => Heap.get?_push_of_some _ (Heap.get?_push_of_some _ (Heap.get?_push_of_some _ (kp c o e)))
    · have q := Heap.get?_push_size ((h1.push { cls := .type "tuple", data := .seq ((List.range ls.length).map fun k => Value.ref (s.heap.objs.size + k)).toArray }).push { cls := .type "tuple", data := .seq (((List.range ls.length).map fun k => Value.ref (s.heap.objs.size + k)).map fun _ => Value.none).toArray }) (o := ZipObj .none false (s.heap.objs.size + ls.length) (s.heap.objs.size + ls.length + 1)) rfl
      rw [e2] at q
      rw [← q]
      show Heap.get? (Heap.push _ { cls := .type "zip", data := .fields #[.none, .bool false, .bool false, .ref h1.objs.size, .ref (h1.push _).objs.size] }) _ = _
      rw [e1, ez]
    · have q := Heap.get?_push_size h1 (o := { cls := .type "tuple", data := .seq ((List.range ls.length).map fun k => Value.ref (s.heap.objs.size + k)).toArray }) rfl
      rw [ez] at q
      have em : (((List.range ls.length).map fun k => s.heap.objs.size + k).map Value.ref) = (List.range ls.length).map fun k => Value.ref (s.heap.objs.size + k) := by rw [List.map_map]; rfl
      rw [em]
      exact Heap.get?_push_of_some _ (Heap.get?_push_of_some _ q)
    · have q := Heap.get?_push_size (h1.push { cls := .type "tuple", data := .seq ((List.range ls.length).map fun k => Value.ref (s.heap.objs.size + k)).toArray }) (o := { cls := .type "tuple", data := .seq (((List.range ls.length).map fun k => Value.ref (s.heap.objs.size + k)).map fun _ => Value.none).toArray }) rfl
      rw [e1] at q
      exact Heap.get?_push_of_some _ q
    · exact (hit k l hk).at fun o e => Heap.get?_push_of_some _ (Heap.get?_push_of_some _ (Heap.get?_push_of_some _ e))
section
variable {prog : Program} {w : World} {A : Around} {E : Value → Shared → Prop} {s : Shared}
theorem call_zipN {ls : List Addr} (l8 : ls.length ≤ 8) {Q : Value → Shared → Prop} (hl : ∀ l ∈ ls, ∃ xs, s.heap.IsList l xs)
    (h : ∀ h', ZN h' (s.heap.objs.size + ls.length + 2) (s.heap.objs.size + ls.length) (s.heap.objs.size + ls.length + 1) ((List.range ls.length).map fun k => s.heap.objs.size + k) ls 0 → (∀ c o, s.heap.get? c = some o → h'.get? c = some o) → Q (.ref (s.heap.objs.size + ls.length + 2)) { s with heap := h' }) :
    wpAny (model prog w) A (call (.type "zip") (ls.map Value.ref)) Q E s := by
  have lm : (ls.map Value.ref).length ≤ 8 := by rw [List.length_map]; exact l8
  refine callType_new F.called_zip (by decide) (typeCall_zipN _ lm) (newCall_zipN _ lm) (fun obj => args_initN obj _ lm) F.entry_zip_new (meets_zipN ls l8) ⟨hl, fun h' hz hti hto hit kp => ?_⟩
  refine ⟨⟨_, hz, rfl⟩, h h' ⟨⟨_, _, hz, .inl rfl⟩, hti, ?_, fun k i l hk hl => ?_⟩ kp⟩
  · obtain ⟨ys, h1, h2⟩ := hto
    exact ⟨ys, h1, by rw [h2]; simp⟩
  · rw [List.getElem?_map] at hk
    have kl : k < ls.length := (List.getElem?_eq_some_iff.mp hl).1
    rw [List.getElem?_range kl] at hk
    obtain rfl := (Option.some.inj hk).symm
    exact hit k l hl
theorem ap_zipN {n0 : Nat} {ls : List Addr} (h : ∀ l ∈ ls, l < n0) : Ap (n0 + ls.length + 2) (n0 + ls.length) (n0 + ls.length + 1) ((List.range ls.length).map fun k => n0 + k) ls := by
  have hi : ∀ i ∈ (List.range ls.length).map fun k => n0 + k, n0 ≤ i ∧ i < n0 + ls.length := fun i hi => by
    obtain ⟨k, hk, rfl⟩ := List.mem_map.mp hi
    have := List.mem_range.mp hk
    omega
  refine ⟨by simp, by show n0 + ls.length ≠ n0 + ls.length + 2; omega, by show n0 + ls.length + 1 ≠ n0 + ls.length + 2; omega, by show n0 + ls.length ≠ n0 + ls.length + 1; omega, fun i h1 => ?_, fun i h1 => ?_, fun i h1 => ?_, ?_, fun l h1 => ?_, fun l h1 => ?_, fun l h1 h2 => ?_⟩
  · have := hi i h1; exact Nat.ne_of_lt (by omega)
  · have := hi i h1; exact Nat.ne_of_lt (by omega)
  · have := hi i h1; exact Nat.ne_of_lt (by omega)
  · exact List.pairwise_map.mpr (List.nodup_range.imp fun {a b} q e => q (Nat.add_left_cancel e))
  · exact Nat.ne_of_lt (Nat.lt_of_lt_of_le (h l h1) (Nat.le_trans (Nat.le_add_right n0 ls.length) (Nat.le_add_right _ 2)))
  · exact Nat.ne_of_lt (Nat.lt_of_lt_of_le (h l h1) (Nat.le_trans (Nat.le_add_right n0 ls.length) (Nat.le_add_right _ 1)))
  · exact Nat.lt_irrefl _ (Nat.lt_of_lt_of_le (h l h1) (hi l h2).1)
theorem iter_zipN {z TI TO : Addr} {its ls : List Addr} {pos : Nat} {Q : Value → Shared → Prop} (st : ZN s.heap z TI TO its ls pos) (h : Q (.ref z) s) : wpAny (model prog w) A (pyIter (.ref z)) Q E s := by
  obtain ⟨f, g, hz, hf⟩ := st.zip
  have hT : s.TypeIs (.ref z) "zip" := ⟨_, hz, rfl⟩
  refine wpAny_pyIter_slot hT F.slot_zip_iter (wpAny_call_entry F.slot_zip_iter hT F.entry_zip_iter ?_ (F.args_zip_iter_1 _))
  show wpAny _ _ (ret (.ref z)) _ _ s
  exact wpAny_pure ⟨_, rfl, "zip", _, hT, F.slot_zip_next.lookup, h⟩
end
end Kh

set_option maxRecDepth 100000
set_option maxHeartbeats 1000000
/-! for x in zip(*lists), in a comprehension -/
namespace Kh
open PySem PySem.Spec PyProof.Rows L2
section
variable {prog : Program} {w : World} {A : Around} {E : Value → Shared → Prop} {s : Shared}
theorem star_list {a : Addr} {its : Array Value} {Q : List Value → Shared → Prop} (hl : s.heap.IsList a its) (hz : its.size ≤ sizeLine) (h : ∀ h', (∀ b o, s.heap.get? b = some o → h'.get? b = some o) → Q its.toList { s with heap := h' }) : PySem.W.StarOf (model prog w) A E (.ref a) Q s := by
  obtain ⟨o, ho, hc, n, hd⟩ := hl
  have hT : s.TypeIs (.ref a) "list" := ⟨o, ho, hc⟩
  unfold PySem.W.StarOf notIterableAtAll
  exact wpAny_bind (wpAny_specialOf hT PySem.F.slot_list_iter.lookup (wpAny_pure ⟨rfl, wpAny_collect_seq a (.inl rfl) ho hc hd h hz⟩))
end
def ItzN (K : PySem.W.Frag) (as : List Addr) : It :=
  ⟨fun i H => ∃ vs : List V, vs.length = as.length ∧ ∀ (k : Nat) a v, as[k]? = some a → vs[k]? = some v → ∃ xs, SqL K H a xs ∧ xs[i]? = some v,
   fun i H v H' => ∃ T vs, v = .ref T ∧ H T = none ∧ H' = upd H T (.tup vs) ∧ vs.length = as.length ∧ ∀ (k : Nat) a u, as[k]? = some a → vs[k]? = some u → ∀ xs, SqL K H a xs → xs[i]? = some u,
   fun i H => ∀ a, as[0]? = some a → ∃ xs, SqL K H a xs ∧ xs.length ≤ i⟩
theorem vals_zipN {X : Cx} {pins : List (Addr × Obj)} {σ : L2.St} {H : Hp} {s : Shared} (I : Inv X pins σ H s) (i : Nat) : ∀ (as : List Addr) (vs : List V), vs.length = as.length → (∀ (k : Nat) a v, as[k]? = some a → vs[k]? = some v → ∃ xs, SqL X.K H a xs ∧ xs[i]? = some v) →
    ∃ us : List Value, Vals vs us ∧ us.length = as.length ∧ ∀ (k : Nat) a u, as[k]? = some a → us[k]? = some u → ∃ xs, s.heap.IsList a xs ∧ xs[i]? = some u
  | [], [], _, _ => ⟨[], .nil, rfl, fun k a u h => by simp at h⟩
  | [], _ :: _, h, _ => by cases h
  | _ :: _, [], h, _ => by cases h
  | a :: as, v :: vs, hl, hh => by
    obtain ⟨us, r, l, g⟩ := vals_zipN I i as vs (Nat.succ.inj hl) fun k a v h1 h2 => hh (k + 1) a v h1 h2
    obtain ⟨xs, hx, hi⟩ := hh 0 a v rfl rfl
    obtain ⟨its, rv, p, _⟩ := I.list hx
    obtain ⟨u, hu, ru⟩ := rv.get hi
    refine ⟨u :: us, .cons ru r, by simp [l], fun k a' u' h1 h2 => ?_⟩
    cases k with
    | zero =>
      cases h1; cases h2
      exact ⟨its.toArray, p.isList, by simpa using hu⟩
    | succ k => exact g k a' u' h1 h2
theorem turn_zipN {P : Program} {w : World} {K : PySem.W.Frag} {y : Str} {tpos : Pos} {z TI TO : Addr} {its as : List Addr} (D : Ap z TI TO its as) (ne : as ≠ []) (l8 : as.length ≤ 8) :
    Turn P w K (.Name y tpos) (ItzN K as) (z :: TI :: TO :: its) z (fun i h => ZN h z TI TO its as i) where
  mem := List.mem_cons_self
  obj := fun i h st c hc => by
    obtain ⟨⟨f, g, hz, _⟩, hTI, ⟨ys, hTO, _⟩, hit⟩ := st
    rcases List.mem_cons.mp hc with rfl | hc
    · exact ⟨_, hz, fun v q => nomatch q⟩
    rcases List.mem_cons.mp hc with rfl | hc
    · exact ⟨_, hTI, fun v q => nomatch q⟩
    rcases List.mem_cons.mp hc with rfl | hc
    · exact ⟨_, hTO, fun v q => nomatch q⟩
    · obtain ⟨k, hk⟩ := List.getElem?_of_mem hc
      have kl := (List.getElem?_eq_some_iff.mp hk).1
      obtain ⟨l, hl⟩ : ∃ l, as[k]? = some l := ⟨_, List.getElem?_eq_getElem (by rw [D.len]; exact kl)⟩
      obtain ⟨o, e, _, d⟩ := hit k c l hk hl
      exact ⟨o, e, fun v q => by rw [d] at q; cases q⟩
  keep := fun i h h' st k => by
    obtain ⟨⟨f, g, hz, hf⟩, hTI, ⟨ys, hTO, ly⟩, hit⟩ := st
    exact ⟨⟨f, g, k z (by simp) _ hz, hf⟩, k TI (by simp) _ hTI, ⟨ys, k TO (by simp) _ hTO, ly⟩, fun j i l h1 h2 => (hit j i l h1 h2).at fun o q => k i (by simp [List.mem_of_getElem? h1]) o q⟩
  item := by
    intro X hP hw hK hc i pins s σ H E I hf st hg
    subst hP hw hK
    obtain ⟨vs, lv, hv⟩ := hg
    obtain ⟨us, r, lu, gu⟩ := vals_zipN I i as vs lv hv
    have ne' : its ≠ [] := fun z => by
      have := D.len
      rw [z, List.length_nil] at this
      exact ne (List.eq_nil_of_length_eq_zero this)
    have ll := D.len
    refine zipN_pyNext D st ne' (by omega) (by omega) gu fun h' st' hT hsz hk => ⟨_, rfl, ?_⟩
    show wpAny _ _ (pure ()) _ _ _
    have new : ObjOk X.prog X.w (upd H s.heap.objs.size (.tup vs)) h' s.heap.objs.size (.tup vs) :=
      ⟨Nat.le_trans (show vs.length ≤ 8 by omega) (by decide), us, r, ⟨_, hT, rfl, _, rfl⟩⟩
    have I1 : Inv X pins σ (upd H s.heap.objs.size (.tup vs)) { s with heap := h' } :=
      I.turnedNew (t' := s.toks) (ch := z :: TI :: TO :: its) (fun c o hb q => hk c o (fun e => hb (by simp [e])) (fun e => hb (by simp [e])) (fun e => hb (by simp [e])) q) hf (Nat.le_refl _) new
    refine wpAny_pure ⟨.ref s.heap.objs.size, _, I1, rfl, ⟨_, vs, rfl, I.hok.fresh (Nat.le_refl _), rfl, lv, fun k a u h1 h2 xs hxs => ?_⟩, st', fun c hcm => ?_⟩
    · obtain ⟨xs', hx', e⟩ := hv k a u h1 h2
      rw [I.list_inj hxs hx']; exact e
    · have hlt : c < s.heap.objs.size := by
        obtain ⟨⟨f, g, hz, _⟩, hTI, ⟨ys, hTO, _⟩, hit⟩ := st
        rcases List.mem_cons.mp hcm with rfl | hc
        · exact Heap.lt_size hz
        rcases List.mem_cons.mp hc with rfl | hc
        · exact Heap.lt_size hTI
        rcases List.mem_cons.mp hc with rfl | hc
        · exact Heap.lt_size hTO
        · obtain ⟨k, hk⟩ := List.getElem?_of_mem hc
          have kl := (List.getElem?_eq_some_iff.mp hk).1
          obtain ⟨l, hl⟩ : ∃ l, as[k]? = some l := ⟨_, List.getElem?_eq_getElem (by rw [D.len]; exact kl)⟩
          obtain ⟨o, e, _⟩ := hit k c l hk hl
          exact Heap.lt_size e
      rw [upd_ne (Nat.ne_of_lt hlt)]
      exact (hf c hcm).1
  done := by
    intro X hP hw hK hc i pins s σ H E I hf st hg
    subst hP hw hK
    have ne' : its ≠ [] := fun z => by
      have := D.len
      rw [z, List.length_nil] at this
      exact ne (List.eq_nil_of_length_eq_zero this)
    refine zipN_pyStop (I.ok.hd hc) D st ne' (fun l hl => ?_) fun h' hk => ⟨rfl, I.turnedL (t' := s.toks) (ch := z :: TI :: TO :: its) (fun c o hb q => hk c o (fun e => hb (by simp [e])) (fun e => hb (by simp [e])) (fun e => hb (by simp [e])) q) hf⟩
    obtain ⟨xs, hxs, hle⟩ := hg l hl
    obtain ⟨us, rv, p, _⟩ := I.list hxs
    have := rv.length
    exact ⟨us.toArray, p.isList, by simp; omega⟩
  self := fun A i s Q E st h => iter_zipN st h
def iZipS (K : PySem.W.Frag) (te : TE) : TI := fun σ H R => te σ H fun x H1 => ∃ (l : Addr) (as : List Addr), x = .ref l ∧ SqL K H1 l (as.map V.ref) ∧ as ≠ [] ∧ as.length ≤ 8 ∧ (∀ a ∈ as, ∃ xs, SqL K H1 a xs) ∧ R (ItzN K as) H1
theorem vals_refs : ∀ {as : List Addr} {us : List Value}, Vals (as.map V.ref) us → us = as.map Value.ref
  | [], _, h => by cases h; rfl
  | a :: as, _, h => by
    cases h with
    | cons r t => cases r; rw [vals_refs t]; rfl
theorem pi_zipS {X : Cx} {e : Expr} {te : TE} {p pos tpos sp : Pos} {y : Str} (hg : Gl X "zip") (hm : X.mg "zip" = none) (he : PE X e te) (hs : starEach [.Starred e sp] X.env = [(true, eval e X.env)] := by rfl) :
    PI X (.Name y tpos) (.Call (.Name "zip" p) [.Starred e sp] [] pos) (iZipS X.K te) := by
  refine ⟨fun pins s σ H R I h => ?_⟩
  refine Call_ (ld_blt I hg hm PyProof.Rows.boot_zip ?_)
  rw [hs]
  refine PySem.W.ks_call (P := fun _ => True) rfl (fun h _ => ⟨.machine, .inr (.inl rfl), PySem.W.Looks.of_pure rfl⟩) (PySem.W.ks_lone ?_)
  refine thn (he.run pins s σ H _ I h) fun v s1 ⟨x, H1, I1, r1, l, as, ex, hl, ne, l8, hal, q⟩ => ?_
  subst ex
  cases r1
  obtain ⟨its, rv, p1, _⟩ := I1.list hl
  have ei := vals_refs rv
  subst ei
  refine star_list p1.isList (Nat.le_trans (by simp; omega) (show 8 ≤ sizeLine by decide)) fun h1 kp1 => ⟨trivial, ?_⟩
  have I2 : Inv X pins σ H1 { s1 with heap := h1 } := I1.kept (t' := s1.toks) kp1
  have lists : ∀ a ∈ as, ∃ xs, h1.IsList a xs := fun a ha => by
    obtain ⟨xs, hx⟩ := hal a ha
    obtain ⟨us, _, p2, _⟩ := I2.list hx
    exact ⟨_, p2.isList⟩
  have small : ∀ a ∈ as, a < h1.objs.size := fun a ha => by
    obtain ⟨xs, o, ho, _⟩ := lists a ha
    exact Heap.lt_size ho
  show wpAny _ _ (call (.type "zip") (as.map Value.ref)) _ _ _
  refine call_zipN (s := { s1 with heap := h1 }) l8 lists fun h' st kp => iter_zipN (s := { s1 with heap := h' }) st ?_
  have I3 : Inv X pins σ H1 { s1 with heap := h' } := I2.kept (t' := s1.toks) kp
  refine ⟨_, _, _, _, H1, rfl, I3, turn_zipN (ap_zipN small) ne l8, st, fun c hcm => ?_, q⟩
  have hle : h1.objs.size ≤ c := by
    rcases List.mem_cons.mp hcm with rfl | hc
    · exact Nat.le_trans (Nat.le_add_right _ as.length) (Nat.le_add_right _ 2)
    rcases List.mem_cons.mp hc with rfl | hc
    · exact Nat.le_add_right _ _
    rcases List.mem_cons.mp hc with rfl | hc
    · exact Nat.le_trans (Nat.le_add_right _ as.length) (Nat.le_add_right _ 1)
    · obtain ⟨k, _, rfl⟩ := List.mem_map.mp hc
      exact Nat.le_add_right _ _
  exact I2.fpOk hle (I2.hok.fresh hle)
theorem k_sum {X : Cx} {K : PySem.W.Frag} (hc : X.calm = true) (h : X.K = K := by rfl) : CallR X (.builtin "sum") (rSum K) := by subst h; exact cr_sum hc
end Kh

set_option maxRecDepth 100000
set_option maxHeartbeats 2000000
/-! list(zip(a, b)) of two lists of one length -/
namespace Kh
open PySem PySem.Spec PyProof.Rows L2
theorem nolen_zip : typeLookup (.type "zip") "__len__" = pure none := by rw [typeLookup_type, builtinLookup_eq_fast]; kernel_rfl
theorem nohint_zip : typeLookup (.type "zip") "__length_hint__" = pure none := by rw [typeLookup_type, builtinLookup_eq_fast]; kernel_rfl
abbrev TupO (vs : List Value) : Obj := { cls := .type "tuple", data := .seq vs.toArray }
structure ZlG (f : Nat → List Value) (lo : Addr) (h : Heap) (as : List Addr) : Prop where
  rise : as.Pairwise (· < ·)
  above : ∀ a ∈ as, lo < a
  at_ : ∀ (j : Nat) (a : Addr), as[j]? = some a → h.get? a = some (TupO (f j))
theorem ZlG.there {f : Nat → List Value} {lo : Addr} {h : Heap} {as : List Addr} (g : ZlG f lo h as) {a : Addr} (ha : a ∈ as) : a < h.objs.size := by
  obtain ⟨j, hj⟩ := List.mem_iff_getElem?.mp ha
  exact Heap.lt_size (g.at_ j a hj)
theorem ZlG.low {f : Nat → List Value} {lo lo' : Addr} {h : Heap} {as : List Addr} (g : ZlG f lo h as) (hl : lo' ≤ lo) : ZlG f lo' h as := ⟨g.rise, fun a ha => Nat.lt_of_le_of_lt hl (g.above a ha), g.at_⟩
structure Src (h : Heap) (ls : List Addr) (n : Nat) (f : Nat → List Value) : Prop where
  len : ∀ i, (f i).length = ls.length
  get : ∀ i, i < n → ∀ (k : Nat) l v, ls[k]? = some l → (f i)[k]? = some v → ∃ xs, h.IsList l xs ∧ xs[i]? = some v
  stop : ∀ l, ls[0]? = some l → ∃ xs, h.IsList l xs ∧ xs[n]? = none
theorem Src.at {h h' : Heap} {ls : List Addr} {n : Nat} {f : Nat → List Value} (x : Src h ls n f) (hk : ∀ l ∈ ls, ∀ o, h.get? l = some o → h'.get? l = some o) : Src h' ls n f :=
  ⟨x.len, fun i hi k l v h1 h2 => let ⟨xs, a, b⟩ := x.get i hi k l v h1 h2; ⟨xs, a.at fun o e => hk l (List.mem_of_getElem? h1) o e, b⟩, fun l h1 => let ⟨xs, a, b⟩ := x.stop l h1; ⟨xs, a.at fun o e => hk l (List.mem_of_getElem? h1) o e, b⟩⟩
theorem ZN.at {h h' : Heap} {z TI TO : Addr} {its ls : List Addr} {i : Nat} (D : Ap z TI TO its ls) (x : ZN h z TI TO its ls i) (k : ∀ b, b ∈ z :: TI :: TO :: its → ∀ o, h.get? b = some o → h'.get? b = some o) : ZN h' z TI TO its ls i := by
  obtain ⟨⟨f, g, hz, hf⟩, hTI, ⟨ys, hTO, ly⟩, hit⟩ := x
  exact ⟨⟨f, g, k z (by simp) _ hz, hf⟩, k TI (by simp) _ hTI, ⟨ys, k TO (by simp) _ hTO, ly⟩, fun j i l h1 h2 => (hit j i l h1 h2).at fun o q => k i (by simp [List.mem_of_getElem? h1]) o q⟩
section
variable {prog : Program} {w : World} {A : Around} {s : Shared} {R : Result → Shared → Prop} {z TI TO : Addr} {its ls : List Addr} {n : Nat} {f : Nat → List Value}
theorem zl_loop {S lo : Addr} (hh : A.handled = none) (D : Ap z TI TO its ls) (ne : its ≠ []) (l8 : its.length ≤ 1000) (hSf : S ∉ z :: TI :: TO :: its) (hSl : S ∉ ls) (hfl : ∀ b ∈ z :: TI :: TO :: its, b ≤ lo) (hSlo : S ≤ lo) (hn : n ≤ sizeLine) (res : Value) {h₁ : Heap}
    (hR : ∀ h' tk acc c as, (∀ b o, b ≠ S → b ∉ z :: TI :: TO :: its → h₁.get? b = some o → h'.get? b = some o) → h'.get? S = some { cls := .type "list", dict := none, data := .seq acc c, slots := #[] } → as.length = n → ZlG f lo h' as →
      acc.toList = as.map Value.ref → R (.ok (.ret res)) { s with heap := h', toks := tk }) :
    ∀ (k i : Nat) (h : Heap) (tk c : Nat) (acc : Array Value) (as : List Addr), n - i = k → i ≤ n → ZN h z TI TO its ls i → Src h ls n f → (∀ b o, b ≠ S → b ∉ z :: TI :: TO :: its → h₁.get? b = some o → h.get? b = some o) →
      h.get? S = some { cls := .type "list", dict := none, data := .seq acc c, slots := #[] } → acc.toList = as.map Value.ref → as.length = i → ZlG f lo h as → lo < h.objs.size →
      codeAny (model prog w) A (.builtin "list.extend.loop" ⟨[.ref S, .ref z, res], []⟩) R { s with heap := h, toks := tk } := by
  have hSz : S ≠ z := fun e => hSf (by rw [e]; simp)
  have out : ∀ {h h' : Heap}, (∀ c o, c ≠ z → c ≠ TO → c ∉ its → h.get? c = some o → h'.get? c = some o) → ∀ c o, c ∉ z :: TI :: TO :: its → h.get? c = some o → h'.get? c = some o := fun hk c o hc e => hk c o (fun q => hc (by simp [q])) (fun q => hc (by simp [q])) (fun q => hc (by simp [q])) e
  have lsf : ∀ l ∈ ls, l ∉ its ∧ l ≠ z ∧ l ≠ TO := fun l hl => ⟨D.li l hl, D.lz l hl, D.lo l hl⟩
  intro k
  induction k with
  | zero =>
    intro i h tk c acc as hk hi hst hsr hkeep hS hacc hal hG hIs
    have hin : i = n := by omega
    refine codeAny_builtin PySem.F.entry_extend_loop ?_
    rw [Around.under_plainId PySem.F.plain_extend_loop _]
    show wpAny _ A.in1 (pyNext (.ref z) >>= _) _ _ _
    refine wpAny_bind (zipN_pyStop (s := { s with heap := h, toks := tk }) (A := A.in1) hh D hst ne (fun l hl => by rw [hin]; exact hsr.stop l hl) fun h' he => ?_)
    have he' := out he
    refine wpAny_pure (hR h' tk acc c as (fun b o h1 h2 e => he' b o h2 (hkeep b o h1 h2 e)) (he' S _ hSf hS) (by omega) ⟨hG.rise, hG.above, fun j a hj => ?_⟩ hacc)
    exact he' a _ (fun q => Nat.lt_irrefl _ (Nat.lt_of_lt_of_le (hG.above a (List.mem_of_getElem? hj)) (hfl a q))) (hG.at_ j a hj)
  | succ k ih =>
    intro i h tk c acc as hk hi hst hsr hkeep hS hacc hal hG hIs
    have hlt : i < n := by omega
    have hsz : acc.size = i := by rw [← Array.length_toList, hacc, List.length_map, hal]
    refine codeAny_builtin PySem.F.entry_extend_loop ?_
    rw [Around.under_plainId PySem.F.plain_extend_loop _]
    show wpAny _ A.in1 (pyNext (.ref z) >>= _) _ _ _
    refine wpAny_bind (zipN_pyNext (s := { s with heap := h, toks := tk }) (A := A.in1) D hst ne l8 (vs := f i) (by rw [hsr.len, D.len]) (hsr.get i hlt) fun h' hst' ht hz hkp => ?_)
    dsimp only at ht hz hkp ⊢
    have hkp' := out hkp
    have hS' := hkp' S _ hSf hS
    have up : ∀ b o, b ≠ S → h'.get? b = some o → (h'.update S (Obj.mapSeq (·.push (Value.ref h.objs.size)))).get? b = some o := fun b o hb e => (Heap.get?_update_other _ _ (Ne.symm hb)).trans e
    have hSl' : S < h.objs.size := Heap.lt_size hS
    show wpAny _ A.in1 (updateSeq S (·.push (Value.ref h.objs.size)) >>= _) _ _ _
    refine wpAny_bind ?_
    refine wpAny_updateSeq hS' rfl (wpAny_pure ⟨plainId_quiet PySem.F.plain_extend_loop _, ih (i + 1) _ tk _ (acc.push (Value.ref h.objs.size)) (as ++ [h.objs.size]) (by omega) hlt (hst'.at D fun b hb o e => up b o (fun q => hSf (by rw [← q]; exact hb)) e) (hsr.at fun l hl o e => up l o (fun q => hSl (by rw [← q]; exact hl)) (hkp l o (lsf l hl).2.1 (lsf l hl).2.2 (lsf l hl).1 e))
      (fun b o h1 h2 e => up b o h1 (hkp' b o h2 (hkeep b o h1 h2 e))) (Heap.get?_update_self _ hS' rfl) (by rw [Array.toList_push, hacc, List.map_append]; rfl) (by rw [List.length_append, hal]; rfl) ⟨?_, ?_, ?_⟩ ?_⟩) (by rw [hsz]; omega) (by show (acc.push (Value.ref h.objs.size)).size ≤ sizeLine + 1; rw [Array.size_push, hsz]; omega)
    · refine List.pairwise_append.mpr ⟨hG.rise, List.pairwise_singleton _ _, fun a ha b hb => ?_⟩
      rw [List.mem_singleton.mp hb]
      exact hG.there ha
    · intro a ha
      rcases List.mem_append.mp ha with ha | ha
      · exact hG.above a ha
      · rw [List.mem_singleton.mp ha]; exact hIs
    · intro j b hj
      rcases Nat.lt_trichotomy j as.length with h1 | h1 | h1
      · rw [List.getElem?_append_left h1] at hj
        have hb := hG.above b (List.mem_of_getElem? hj)
        exact up b _ (Nat.ne_of_gt (Nat.lt_of_le_of_lt hSlo hb)) (hkp' b _ (fun q => Nat.lt_irrefl _ (Nat.lt_of_lt_of_le hb (hfl b q))) (hG.at_ j b hj))
      · subst h1
        have hb : h.objs.size = b := by simpa using hj
        subst hb
        rw [hal]
        exact up _ _ (Nat.ne_of_gt hSl') ht
      · have hnone : (as ++ [h.objs.size])[j]? = none := List.getElem?_eq_none (by rw [List.length_append, List.length_singleton]; omega)
        rw [hnone] at hj; cases hj
    · have e : (h'.update S (Obj.mapSeq (·.push (Value.ref h.objs.size)))).get? h.objs.size = _ := up _ _ (Nat.ne_of_gt hSl') ht
      exact Nat.lt_trans hIs (Heap.lt_size e)
end
section
variable {prog : Program} {w : World} {A : Around} {E : Value → Shared → Prop} {s : Shared} {z TI TO : Addr} {its ls : List Addr} {n : Nat} {f : Nat → List Value}
theorem zl_call {Q : Value → Shared → Prop} (hh : A.handled = none) (D : Ap z TI TO its ls) (ne : its ≠ []) (l8 : its.length ≤ 1000) (hst : ZN s.heap z TI TO its ls 0) (hsr : Src s.heap ls n f) (hlo : ∀ b ∈ z :: TI :: TO :: its, b < s.heap.objs.size) (hll : ∀ b ∈ ls, b < s.heap.objs.size) (hn : n ≤ sizeLine)
    (hQ : ∀ h' tk acc c as, (∀ b o, b ∉ z :: TI :: TO :: its → s.heap.get? b = some o → h'.get? b = some o) → h'.get? s.heap.objs.size = some { cls := .type "list", dict := none, data := .seq acc c, slots := #[] } → as.length = n → ZlG f s.heap.objs.size h' as →
      acc.toList = as.map Value.ref → Q (.ref s.heap.objs.size) { s with heap := h', toks := tk }) :
    wpAny (model prog w) A (call (.type "list") [.ref z]) Q E s := by
  refine callType_codes (Q₁ := fun obj s₁ => obj = .ref s.heap.objs.size ∧ s₁ = { s with heap := s.heap.push { cls := .type "list", data := .seq #[] } }) PySem.F.called_list (PySem.F.typeCall_list_1 _) PySem.F.entry_list_init
    (code_list_new _ ⟨rfl, rfl⟩) fun obj s₁ h₁ => ?_
  obtain ⟨rfl, rfl⟩ := h₁
  have hS : (s.heap.push { cls := .type "list", data := .seq #[] }).get? s.heap.objs.size = some { cls := .type "list", data := .seq #[] } := Heap.get?_push_size _ rfl
  have hSf : s.heap.objs.size ∉ z :: TI :: TO :: its := fun q => Nat.lt_irrefl _ (hlo _ q)
  have hSl : s.heap.objs.size ∉ ls := fun q => Nat.lt_irrefl _ (hll _ q)
  have hSz : s.heap.objs.size ≠ z := fun e => hSf (by rw [e]; simp)
  refine ⟨⟨_, hS, rfl⟩, PySem.F.args_list_init_2 _ _, ?_⟩
  show wpAny _ _ (do let old ← Builtin.List.listItems (.ref s.heap.objs.size); Builtin.List.listUpdate (.ref s.heap.objs.size) (fun _ => #[]); letGo old.toList.reverse; Builtin.List.listExtendWith (.ref s.heap.objs.size) (.ref z) .none) _ _ _
  refine wpAny_bind ?_
  unfold Builtin.List.listItems
  refine wpAny_bind (wpAny_seqItems hS rfl (wpAny_pure ?_))
  show wpAny _ _ (updateSeq s.heap.objs.size (fun _ => #[]) >>= fun _ => letGo (#[] : Array Value).toList.reverse >>= fun _ => Builtin.List.listExtendWith (.ref s.heap.objs.size) (.ref z) .none) _ _ _
  refine wpAny_bind (wpAny_updateSeq hS rfl ?_)
  have hS₂ := Heap.get?_update_self (Obj.mapSeq (fun _ => (#[] : Array Value))) hS rfl
  have oth : ∀ b o, b ≠ s.heap.objs.size → s.heap.get? b = some o → ((s.heap.push { cls := .type "list", data := .seq #[] }).update s.heap.objs.size (Obj.mapSeq (fun _ => (#[] : Array Value)))).get? b = some o :=
    fun b o hb e => (Heap.get?_update_other _ _ (Ne.symm hb)).trans (Heap.get?_push_of_some _ e)
  have hsz : ((s.heap.push { cls := .type "list", data := .seq #[] }).update s.heap.objs.size (Obj.mapSeq (fun _ => (#[] : Array Value)))).objs.size = s.heap.objs.size + 1 := by rw [(Heap.SameBut.update ..).1, Heap.size_push]
  refine wpAny_bind (wpAny_letGo ?_)
  generalize (s.heap.push { cls := .type "list", data := .seq #[] }).update s.heap.objs.size (Obj.mapSeq (fun _ => (#[] : Array Value))) = h2 at *
  have hst2 := hst.at D fun b hb o e => oth b o (fun q => hSf (by rw [← q]; exact hb)) e
  obtain ⟨f0, g0, hz0, hf0⟩ := hst2.zip
  have hT : ∀ (tk : Nat), ({ s with heap := h2, toks := tk } : Shared).TypeIs (.ref z) "zip" := fun tk => ⟨_, hz0, rfl⟩
  unfold Builtin.List.listExtendWith
  refine wpAny_bind (wpAny_typeOf (T := "zip") ⟨_, hz0, rfl⟩ ?_)
  have h1 : Builtin.List.listSameRef (.ref s.heap.objs.size) (.ref z) = false := by simp [Builtin.List.listSameRef, hSz]
  have h2' : (Value.type "zip" == Value.type "list") = false := by decide
  have h3 : (Value.type "zip" == Value.type "tuple") = false := by decide
  simp only [h1, h2', h3, Bool.or_false, Bool.false_eq_true, if_false]
  refine wpAny_bind (iter_zipN hst2 ?_)
  refine wpAny_bind (wpAny_holding ?_)
  unfold Builtin.List.listLengthHint
  refine wpAny_bind (wpAny_specialOf (T := "zip") ⟨_, hz0, rfl⟩ nolen_zip ?_)
  show wpAny _ _ (specialOf (Value.ref z) (Str.ofString "__length_hint__") >>= _) _ _ _
  refine wpAny_bind (wpAny_specialOf (T := "zip") ⟨_, hz0, rfl⟩ nohint_zip ?_)
  refine wpAny_pure ?_
  show wpAny _ _ (rule "list.extend.makes-room" >>= fun _ => Builtin.List.listTouch (.ref s.heap.objs.size) >>= fun _ =>
    again (.builtin "list.extend.loop" ⟨[.ref s.heap.objs.size, .ref z, .none], []⟩)) _ _ _
  refine wpAny_bind (wpAny_rule ?_)
  refine wpAny_bind ?_
  show wpAny _ _ (updateSeq s.heap.objs.size (·.push .none) >>= fun _ => updateSeq s.heap.objs.size (·.pop)) _ _ _
  refine wpAny_bind (wpAny_updateSeq hS₂ rfl ?_)
  have hS₃ := Heap.get?_update_self (Obj.mapSeq (·.push Value.none)) hS₂ rfl
  refine wpAny_updateSeq (hz := by seq_fits) hS₃ rfl ?_
  have hS₄ := Heap.get?_update_self (Obj.mapSeq (·.pop)) hS₃ rfl
  have oth2 : ∀ b o, b ≠ s.heap.objs.size → h2.get? b = some o → ((h2.update s.heap.objs.size (Obj.mapSeq (·.push Value.none))).update s.heap.objs.size (Obj.mapSeq (·.pop))).get? b = some o :=
    fun b o hb e => (Heap.get?_update_other _ _ (Ne.symm hb)).trans ((Heap.get?_update_other _ _ (Ne.symm hb)).trans e)
  have hsz2 : ((h2.update s.heap.objs.size (Obj.mapSeq (·.push Value.none))).update s.heap.objs.size (Obj.mapSeq (·.pop))).objs.size = s.heap.objs.size + 1 := by rw [(Heap.SameBut.update ..).1, (Heap.SameBut.update ..).1, hsz]
  refine wpAny_pure ⟨plainId_quiet PySem.F.plain_extend_loop _, ?_⟩
  refine zl_loop (s := s) (lo := s.heap.objs.size) (n := n) (f := f) (h₁ := s.heap) (A := A.in1) hh D ne l8 hSf hSl (fun b hb => Nat.le_of_lt (hlo b hb)) (Nat.le_refl _) hn .none (fun h' tk acc c as hk hS' hl hG hacc => ?_) n 0 _ s.toks _ #[] [] (Nat.sub_zero _) (Nat.zero_le _)
    (hst2.at D fun b hb o e => oth2 b o (fun q => hSf (by rw [← q]; exact hb)) e) ((hsr.at fun l hl o e => oth l o (fun q => hSl (by rw [← q]; exact hl)) e).at fun l hl o e => oth2 l o (fun q => hSl (by rw [← q]; exact hl)) e) (fun b o h1 h2 e => oth2 b o h1 (oth b o h1 e)) hS₄ rfl rfl ⟨List.Pairwise.nil, (fun _ ha => nomatch ha), (fun j a hj => by simp at hj)⟩ (by rw [hsz2]; exact Nat.lt_succ_self _)
  exact ⟨rfl, hQ h' tk acc c as (fun b o hb e => hk b o (Nat.ne_of_lt (Heap.lt_size e)) hb e) hS' hl hG hacc⟩
end
end Kh

set_option maxRecDepth 100000
set_option maxHeartbeats 2000000
namespace Kh
open PySem PySem.Spec PyProof.Rows L2
def putP : Hp → List Addr → List (V × V) → Hp
  | H, a :: as, p :: ps => putP (upd H a (.tup [p.1, p.2])) as ps
  | H, _, _ => H
theorem putP_off {b : Addr} : ∀ (as : List Addr) (ps : List (V × V)) (H : Hp), b ∉ as → putP H as ps b = H b
  | [], _, _, _ => rfl
  | _ :: _, [], _, _ => rfl
  | a :: as, p :: ps, H, h => by
    show putP (upd H a (.tup [p.1, p.2])) as ps b = H b
    rw [putP_off as ps _ (fun z => h (List.mem_cons_of_mem _ z)), upd_ne (fun z => h (by rw [z]; exact List.mem_cons_self))]
theorem putP_at : ∀ (as : List Addr) (ps : List (V × V)) (H : Hp), as.Nodup → ∀ (j : Nat) a p, as[j]? = some a → ps[j]? = some p → putP H as ps a = some (.tup [p.1, p.2])
  | [], _, _, _, j, a, p, h, _ => by simp at h
  | _ :: _, [], _, _, j, a, p, _, h => by simp at h
  | a :: as, q :: ps, H, hn, j, b, p, h1, h2 => by
    have hn' := List.nodup_cons.mp hn
    show putP (upd H a (.tup [q.1, q.2])) as ps b = _
    cases j with
    | zero => cases h1; cases h2; rw [putP_off as ps _ hn'.1, upd_same]
    | succ j => exact putP_at as ps _ hn'.2 j b p h1 h2
def tListZip (K : PySem.W.Frag) (ta : TA) : TE := fun σ H Q => ta σ H fun vs H1 => ∃ a b xs ys, vs = [.ref a, .ref b] ∧ SqL K H1 a xs ∧ SqL K H1 b ys ∧ xs.length = ys.length ∧ xs.length ≤ 1000 ∧
  ∀ (H' : Hp) (p : Addr) (ts : List Addr), (∀ b o, H1 b = some o → H' b = some o) → H1 p = none → (∀ t ∈ ts, H1 t = none) → p ∉ ts → H' p = some (.lst (ts.map V.ref)) → ts.length = xs.length →
    (∀ (j : Nat) t x y, ts[j]? = some t → xs[j]? = some x → ys[j]? = some y → H' t = some (.tup [x, y])) → Q (.ref p) H'
section
variable {X : Cx} {e1 e2 : Expr} {ta : TA} {p p2 cpos pos : Pos}
theorem pairs_laid {pins : List (Addr × Obj)} {σ : L2.St} {H : Hp} {s0 s : Shared} {h' : Heap} {tk : Nat} {ps : List (V × V)} {acc : Array Value} {c : Nat} {as : List Addr} {fp : List Addr} {f : Nat → List Value} (I : Inv X pins σ H s0) (hs0 : s = { s0 with heap := s.heap }) (hz : ps.length ≤ sizeLine)
    (hk : ∀ b o, s0.heap.get? b = some o → h'.get? b = some o) (le : s0.heap.objs.size ≤ s.heap.objs.size) (hS : h'.get? s.heap.objs.size = some { cls := .type "list", dict := none, data := .seq acc c, slots := #[] }) (hl : as.length = ps.length) (hG : ZlG f s.heap.objs.size h' as) (hacc : acc.toList = as.map Value.ref)
    (hf : ∀ (j : Nat) p, ps[j]? = some p → ∃ u v, f j = [u, v] ∧ RelV p.1 u ∧ RelV p.2 v) :
    ∃ H' : Hp, (∀ b o, H b = some o → H' b = some o) ∧ H s.heap.objs.size = none ∧ (∀ t ∈ as, H t = none) ∧ s.heap.objs.size ∉ as ∧ H' s.heap.objs.size = some (.lst (as.map V.ref)) ∧ (∀ (j : Nat) t p, as[j]? = some t → ps[j]? = some p → H' t = some (.tup [p.1, p.2])) ∧ Inv X pins σ H' { s0 with heap := h', toks := tk } := by
  have hSn : s.heap.objs.size ∉ as := fun z => Nat.lt_irrefl _ (hG.above _ z)
  have nd : as.Nodup := List.Pairwise.imp (fun {a b} (h : a < b) => Nat.ne_of_lt h) hG.rise
  have new : ∀ t ∈ as, H t = none := fun t ht => I.hok.fresh (Nat.le_trans le (Nat.le_of_lt (hG.above t ht)))
  have newS : H s.heap.objs.size = none := I.hok.fresh le
  have atP := putP_at as ps (upd H s.heap.objs.size (.lst (as.map V.ref))) nd
  have off : ∀ b, b ∉ as → b ≠ s.heap.objs.size → putP (upd H s.heap.objs.size (.lst (as.map V.ref))) as ps b = H b := fun b h1 h2 => by rw [putP_off as ps _ h1, upd_ne h2]
  have low : ∀ b o, s0.heap.get? b = some o → b ∉ as ∧ b ≠ s.heap.objs.size := fun b o e => ⟨fun z => absurd (Heap.lt_size e) (Nat.not_lt.mpr (Nat.le_trans le (Nat.le_of_lt (hG.above b z)))), Nat.ne_of_lt (Nat.lt_of_lt_of_le (Heap.lt_size e) le)⟩
  have kp : ∀ b u, H b = some u → (putP (upd H s.heap.objs.size (.lst (as.map V.ref))) as ps) b = some u := fun b u e => by
    rw [off b (fun z => by rw [new b z] at e; cases e) (fun z => by rw [z, newS] at e; cases e)]
    exact e
  have eS : putP (upd H s.heap.objs.size (.lst (as.map V.ref))) as ps s.heap.objs.size = some (.lst (as.map V.ref)) := by rw [putP_off as ps _ hSn, upd_same]
  refine ⟨putP (upd H s.heap.objs.size (.lst (as.map V.ref))) as ps, kp, newS, new, hSn, eS, atP, ?_⟩
  refine I.call' (ch := []) rfl ⟨fun b o q _ _ _ => hk b o q, fun b o q _ _ _ => ⟨o.slots, hk b o q⟩, fun b o q n _ => ?_, fun b o q _ => ⟨o, hk b o q⟩, fun b xs q => kp b _ q, fun b o u q => kp b _ q, fun b ps q => ⟨#[], by rw [kp b _ q]; simp⟩⟩ (fun b u q => ?_) I.bare fun b z => by simp at z
  · obtain ⟨z1, z2⟩ := low b o q
    rw [off b z1 z2]
    exact n
  · by_cases hb : b ∈ as
    · obtain ⟨j, e1⟩ := List.getElem?_of_mem hb
      have jl := (List.getElem?_eq_some_iff.mp e1).1
      obtain ⟨pk, e2⟩ : ∃ pk, ps[j]? = some pk := ⟨_, List.getElem?_eq_getElem (by omega)⟩
      rw [atP j b pk e1 e2] at q
      cases q
      obtain ⟨u, v, f1, f2, f3⟩ := hf j pk e2
      have g := hG.at_ j b e1
      rw [f1] at g
      exact ⟨by show 2 ≤ sizeLine; decide, [u, v], .cons f2 (.cons f3 .nil), ⟨_, g, rfl, _, rfl⟩⟩
    · by_cases hb2 : b = s.heap.objs.size
      · rw [hb2] at q ⊢
        rw [eS] at q
        cases q
        refine ⟨by rw [List.length_map]; omega, acc.toList, c, by rw [hacc]; exact LiI.vals_refs as, ?_⟩
        rw [Array.toArray_toList]
        exact hS
      · rw [off b hb hb2] at q
        exact (I.hok b u q).stay (fun d v _ y => hk d v y) (fun d y => kp d _ y) fun d xs y => kp d _ y
theorem pe_listZip (hc : X.calm = true) (hg : Gl X "list") (hm : X.mg "list" = none) (hv : bootBuiltins "list" = some (.type "list")) (hgz : Gl X "zip") (hmz : X.mg "zip" = none) (ha : PA X [e1, e2] ta)
    (hs2 : starEach [e1, e2] X.env = (false, eval e1 X.env) :: starEach [e2] X.env := by rfl) (hpl : (backTo cpos (starEach [e2] X.env)).any (·.1) = false := by rfl)
    (hs : starEach [.Call (.Name "zip" p2) [e1, e2] [] cpos] X.env = (false, eval (.Call (.Name "zip" p2) [e1, e2] [] cpos) X.env) :: starEach [] X.env := by rfl) :
    PE X (.Call (.Name "list" p) [.Call (.Name "zip" p2) [e1, e2] [] cpos] [] pos) (tListZip X.K ta) := by
  refine ⟨fun pins s σ H Q I hq => ?_⟩
  refine wpAny_Call_Name_kw (ld_blt I hg hm hv ?_)
  refine PyProof.Rows.callWith_type1 ?_ hs rfl
  rw [hs]
  show wpAny _ _ (spliced ((false, eval (.Call (.Name "zip" p2) [e1, e2] [] cpos) X.env) :: backTo pos (starEach [] X.env))) _ _ s
  refine Calls.spliced_cons ?_
  refine Call_ (ld_blt I hgz hmz PyProof.Rows.boot_zip (PyProof.Rows.callWith_type1 (thn (ha.run cpos pins s σ H _ I hq) fun us s1 ⟨vs, H1, I1, r1, q1⟩ => ?_) hs2 hpl))
  obtain ⟨a, b, xs, ys, ex, hqx, hqy, lxy, l1000, q⟩ := q1
  subst ex
  cases r1 with
  | cons r rr =>
    cases rr with
    | cons r' rr =>
      cases rr
      cases r
      cases r'
      obtain ⟨its, rv, p1, _⟩ := I1.list hqx
      obtain ⟨its2, rv2, p2, _⟩ := I1.list hqy
      have la : a < s1.heap.objs.size := p1.lt
      have lb : b < s1.heap.objs.size := p2.lt
      have k1 := rv.length
      have k2 := rv2.length
      refine call_zipN (ls := [a, b]) (show 2 ≤ 8 by omega) (fun l hl => ?_) fun h' st hk => ?_
      · rcases List.mem_cons.mp hl with rfl | hl
        · exact ⟨_, p1.isList⟩
        · rw [List.mem_singleton.mp hl]; exact ⟨_, p2.isList⟩
      have D := ap_zipN (n0 := s1.heap.objs.size) (ls := [a, b]) fun l hl => by
        rcases List.mem_cons.mp hl with rfl | hl
        · exact la
        · rw [List.mem_singleton.mp hl]; exact lb
      refine Calls.spliced_nil ?_
      have I2 : Inv X pins σ H1 { s1 with heap := h' } := I1.kept (t' := s1.toks) hk
      have hzl : s1.heap.objs.size + [a, b].length + 2 < h'.objs.size := by obtain ⟨f0, g0, hz, _⟩ := st.zip; exact Heap.lt_size hz
      have hfp : ∀ c ∈ (s1.heap.objs.size + [a, b].length + 2) :: (s1.heap.objs.size + [a, b].length) :: (s1.heap.objs.size + [a, b].length + 1) :: ((List.range [a, b].length).map fun k => s1.heap.objs.size + k), s1.heap.objs.size ≤ c ∧ c < h'.objs.size := fun c hcm => by
        have hz' : s1.heap.objs.size + 2 + 2 < h'.objs.size := hzl
        rcases List.mem_cons.mp hcm with rfl | hc
        · exact ⟨Nat.le_trans (Nat.le_add_right _ 2) (Nat.le_add_right _ 2), hz'⟩
        rcases List.mem_cons.mp hc with rfl | hc
        · exact ⟨Nat.le_add_right _ _, by show s1.heap.objs.size + 2 < _; exact Nat.lt_of_le_of_lt (Nat.le_add_right _ 2) hz'⟩
        rcases List.mem_cons.mp hc with rfl | hc
        · exact ⟨Nat.le_trans (Nat.le_add_right _ 2) (Nat.le_add_right _ 1), by show s1.heap.objs.size + 2 + 1 < _; exact Nat.lt_trans (Nat.lt_succ_self _) hz'⟩
        · obtain ⟨k, hk', rfl⟩ := List.mem_map.mp hc
          have : k < 2 := List.mem_range.mp hk'
          refine ⟨Nat.le_add_right _ _, Nat.lt_of_le_of_lt (Nat.add_le_add_left (Nat.le_of_lt this) _) (Nat.lt_of_le_of_lt (Nat.le_add_right _ 2) hz')⟩
      have at1 : ∀ c o, s1.heap.get? c = some o → c < s1.heap.objs.size := fun c o e => Heap.lt_size e
      refine zl_call (s := { s1 with heap := h' }) (n := xs.length) (f := fun i => [its.getD i .none, its2.getD i .none]) (I2.ok.hd hc) D (by simp) (by simp) st ⟨fun _ => rfl, fun i hi k l v h1 h2 => ?_, fun l h1 => ?_⟩ (fun c hcm => (hfp c hcm).2) (fun c hcm => ?_) (Nat.le_trans l1000 (by decide)) fun h3 tk acc c as hk3 hS hl hG hacc => ?_
      · match k with
        | 0 =>
          cases h1; cases h2
          exact ⟨_, p1.isList.at fun o e => hk _ o e, by rw [List.getElem?_toArray, List.getD_eq_getElem?_getD, List.getElem?_eq_getElem (by omega)]; rfl⟩
        | 1 =>
          cases h1; cases h2
          exact ⟨_, p2.isList.at fun o e => hk _ o e, by rw [List.getElem?_toArray, List.getD_eq_getElem?_getD, List.getElem?_eq_getElem (by omega)]; rfl⟩
        | k + 2 => simp at h1
      · cases h1
        exact ⟨_, p1.isList.at fun o e => hk _ o e, by rw [List.getElem?_toArray]; exact List.getElem?_eq_none (by omega)⟩
      · have hz' : s1.heap.objs.size < h'.objs.size := Nat.lt_of_le_of_lt (Nat.le_trans (Nat.le_add_right _ _) (Nat.le_add_right _ 2)) hzl
        rcases List.mem_cons.mp hcm with rfl | hcm
        · exact Nat.lt_trans la hz'
        · rw [List.mem_singleton.mp hcm]; exact Nat.lt_trans lb hz'
      · have hz' : s1.heap.objs.size ≤ h'.objs.size := Nat.le_of_lt (Nat.lt_of_le_of_lt (Nat.le_trans (Nat.le_add_right _ _) (Nat.le_add_right _ 2)) hzl)
        have lz : (xs.zip ys).length = xs.length := by rw [List.length_zip]; omega
        obtain ⟨H', k1', k2', k3', k4', k5', k6', J⟩ := pairs_laid (s := { s1 with heap := h' }) (tk := tk) (ps := xs.zip ys) (fp := []) I1 rfl (by rw [lz]; exact Nat.le_trans l1000 (by decide)) (fun b o e => hk3 b o (fun z => Nat.lt_irrefl _ (Nat.lt_of_lt_of_le (at1 b o e) (hfp b z).1)) (hk b o e)) hz' hS (by rw [lz]; exact hl) hG hacc fun j pq hj => by
          rw [List.getElem?_zip_eq_some] at hj
          obtain ⟨u, hu, ru⟩ := rv.get hj.1
          obtain ⟨u2, hu2, ru2⟩ := rv2.get hj.2
          exact ⟨u, u2, by rw [List.getD_eq_getElem?_getD, hu, List.getD_eq_getElem?_getD, hu2]; rfl, ru, ru2⟩
        exact ⟨.ref _, H', J, rfl, q H' _ as k1' k2' k3' k4' k5' hl fun j t x y e1 e2 e3 => k6' j t (x, y) e1 (by rw [List.getElem?_zip_eq_some]; exact ⟨e2, e3⟩)⟩
end
end Kh

set_option maxRecDepth 100000
set_option maxHeartbeats 2000000
/-! repr of what is no list, too, and of a dict of numbers -/
namespace Kh
open PySem PySem.Spec PyProof.Rows L2
def dicO (ks : List Nat) : List (Key × V) := ks.map fun k => (Sum.inl ((k : Nat) : Int), V.int 0)
def dicK (ks : List Nat) : List (PyData × PyData) := ks.map fun k => (.int (k : Nat), .int (0 : Nat))
def dicD (ks : List Nat) : PyData := .dict (dicK ks)
theorem dicK_ok : ∀ (ks : List Nat), (∀ k ∈ ks, k < 256) → PyData.leavesShortKv 8 (dicK ks) = true ∧ PyData.weightKv (dicK ks) ≤ 300 * ks.length ∧ PyData.depthKv (dicK ks) = 0 ∧ PyData.showableKv (dicK ks) = true
  | [], _ => ⟨by simp [dicK, PyData.leavesShortKv], by simp [dicK, PyData.weightKv], by simp [dicK, PyData.depthKv], by simp [dicK, PyData.showableKv]⟩
  | k :: ks, h => by
    obtain ⟨h1, h2, h3, h4⟩ := dicK_ok ks fun k hk => h k (List.mem_cons_of_mem _ hk)
    have n1 := nice_int (h k List.mem_cons_self)
    have n2 := nice_int (n := 0) (by decide)
    have e : dicK (k :: ks) = (.int (k : Nat), .int (0 : Nat)) :: dicK ks := rfl
    have w1 := n1.wt
    have w2 := n2.wt
    have d1 : PyData.depth (.int (k : Nat)) = 0 := by simp [PyData.depth]
    have d2 : PyData.depth (.int (0 : Nat)) = 0 := by simp [PyData.depth]
    refine ⟨?_, ?_, ?_, ?_⟩
    · rw [e, PyData.leavesShortKv, n1.sh, n2.sh, h1]; rfl
    · rw [e, PyData.weightKv, List.length_cons]; omega
    · rw [e, PyData.depthKv, d1, d2, h3]; rfl
    · rw [e, PyData.showableKv, n1.sw, n2.sw, h4]; rfl
theorem dic_reads {h : Heap} {d : Addr} {ks : List Nat} {P : Program} {w : World} {vs : List (Key × Value)} (kv : KV (dicO ks) vs) (hd : h.DictOf (mixKind P w) d vs) : Reads h (.ref d) (dicD ks) [d] := by
  obtain ⟨o, es, ep, e1, e2, e3, _, hp, _⟩ := hd
  have keys : ∀ (ks : List Nat) (vs : List (Key × Value)) (es : List DictEntry), KV (dicO ks) vs → Pairs (mixKind P w) es vs → ReadsAll h (es.map (·.key)) ((dicK ks).map (·.1)) [] ∧ ReadsAll h (es.map (·.val)) ((dicK ks).map (·.2)) [] := by
    intro ks
    induction ks with
    | nil => intro vs es kv hp; cases kv; cases hp; exact ⟨.nil, .nil⟩
    | cons k ks ih =>
      intro vs es kv hp
      cases kv with
      | cons r t =>
        cases hp with
        | cons hk hv tp =>
          obtain ⟨i1, i2⟩ := ih _ _ t tp
          obtain ⟨r1, r2⟩ := r
          rw [← r1] at hk
          have hk' : keyIs (Sum.inl ((k : Nat) : Int)) _ = true := hk
          obtain ⟨tk, ek⟩ := Value.isInt_shape (k := ((k : Nat) : Int)) hk'
          obtain ⟨tv, ev⟩ : ∃ t, _ = Value.int 0 t := r2
          refine ⟨?_, ?_⟩
          · show ReadsAll h (_ :: _) (_ :: _) ([] ++ [])
            refine .cons ?_ i1
            show Reads h (DictEntry.key _) _ _
            rw [ek]; exact .int _ _
          · show ReadsAll h (_ :: _) (_ :: _) ([] ++ [])
            refine .cons ?_ i2
            show Reads h (DictEntry.val _) _ _
            rw [hv, ev]; exact .int _ _
  obtain ⟨i1, i2⟩ := keys ks vs es.toList kv hp
  exact Reads.dict (as := []) (bs := []) e1 e2.1 e3 i1 i2
def rReprX (K : PySem.W.Frag) : List V → Hp → VK → Prop := fun vs H Q => ∃ v, vs = [v] ∧ ((∃ d, (Dp K H v d ∧ ∃ n m, Nice n m d ∧ n ≤ 1000000 ∧ m ≤ 60) ∧ Q (.str d.shown) H) ∨
  ∃ a ks, v = .ref a ∧ H a = some (.dK (dicO ks)) ∧ ks.length ≤ 100 ∧ (∀ k ∈ ks, k < 256) ∧ Q (.str (dicD ks).shown) H)
section
variable {X : Cx}
theorem cr_reprX (hg : X.A.guards = some []) (hu : X.A.units + 64 < cLine) : CallR X (.builtin "repr") (rReprX X.K) := by
  intro pins s σ H vs us Q I r h
  obtain ⟨v, rfl, h⟩ := h
  obtain ⟨u, rfl, ru⟩ := r.one
  rcases h with ⟨d, ⟨hd, n, m, hn, hn1, hm1⟩, q⟩ | ⟨a, ks, rfl, ha, hl, hk, q⟩
  · have ru0 := ru
    have hd0 := hd
    cases hd with
    | non =>
      cases (show u = Value.none from ru)
      rw [PyData.shown] at q
      exact PySem.P.repr_of_none ⟨.str "None", H, I.tok _, ⟨_, rfl⟩, q⟩
    | bl b =>
      cases (show u = Value.bool b from ru)
      rw [PyData.shown] at q
      exact PySem.P.repr_of_bool ⟨.str (if b then "True" else "False"), H, I.tok _, ⟨_, rfl⟩, q⟩
    | int i =>
      obtain ⟨t, rfl⟩ := ru
      have hz : i.natAbs.log2 < 1920 := by have := hn.sw; rw [PyData.showable] at this; exact of_decide_eq_true this
      rw [PyData.shown] at q
      exact PySem.P.repr_of_int hz ⟨.str (toString i), H, I.tok _, ⟨_, rfl⟩, q⟩
    | str x =>
      obtain ⟨t, rfl⟩ := ru
      have hf := hn.fits hn1
      rw [PyData.shown] at q hf
      exact PySem.P.repr_of_str ⟨.str (reprText x), H, I.tok _, ⟨_, rfl⟩, q⟩ hf
    | lst hs ha =>
      cases ru
      obtain ⟨as, rd⟩ := Dp.reads I _ _ _ hd0 ru0
      refine repr_of_reads' rd hn.sw (fun z => by rw [hn.nd] at z; cases z) hg (by have := hn.dp; omega) (fun _ _ z => z) (fun h' u tk kp => ?_) (hn.fits hn1)
      exact ⟨.str _, H, I.kept (t' := tk) kp, ⟨u, rfl⟩, q⟩
    | tup hs ha =>
      cases ru
      obtain ⟨as, rd⟩ := Dp.reads I _ _ _ hd0 ru0
      refine repr_of_reads' rd hn.sw (fun z => by rw [hn.nd] at z; cases z) hg (by have := hn.dp; omega) (fun _ _ z => z) (fun h' u tk kp => ?_) (hn.fits hn1)
      exact ⟨.str _, H, I.kept (t' := tk) kp, ⟨u, rfl⟩, q⟩
  · obtain rfl : u = Value.ref a := ru
    obtain ⟨hz, hs0, vs, kv, hdo⟩ := I.hok a _ ha
    obtain ⟨k1, k2, k3, k4⟩ := dicK_ok ks hk
    have rd := dic_reads kv hdo
    have hsm : sysModules ∉ [a] := fun z => by
      rw [List.mem_singleton.mp z] at hs0
      rw [beq_self_eq_true] at hs0; cases hs0
    refine repr_of_reads' rd (by unfold dicD; rw [PyData.showable]; exact k4) (fun _ => hsm) hg (by unfold dicD; rw [PyData.depth, k3]; omega) (fun _ _ z => z) (fun h' u tk kp => ?_) ?_
    · exact ⟨.str _, H, I.kept (t' := tk) kp, ⟨u, rfl⟩, q⟩
    · refine PyData.shown_fits (B := 8) (by decide) (by decide) (by unfold dicD; rw [PyData.leavesShort]; exact k1) ?_
      unfold dicD
      rw [PyData.weight]
      exact Nat.le_trans k2 (Nat.le_trans (Nat.mul_le_mul_left _ hl) (by decide))
end
end Kh

set_option maxRecDepth 100000
set_option maxHeartbeats 2000000
/-! sorted(a tuple) -/
namespace PySem.W
open PySem PySem.Spec PyProof.Rows
section
variable {prog : Program} {w : World} {A : Around} {E : Value → Shared → Prop} {s : Shared}
theorem collect_tupK {l : Addr} {vs : List Value} {Q : List Value → Shared → Prop} (hl : s.heap.IsTuple l vs.toArray)
    (h : Q vs { s with heap := (s.heap.push (seqObj "list" #[] 0)).update s.heap.objs.size (Obj.mapSeq (· ++ vs.toArray)) }) (hsz : vs.length ≤ sizeLine) :
    wpAny (model prog w) A (collect (.ref l)) Q E s := by
  obtain ⟨o, ho, hc, n, hd⟩ := id hl
  unfold collect
  refine wpAny_bind (wpAny_runValue (codeAny_builtin entry_proto_collect' ?_))
  show wpAny _ _ (do again (.builtin "list.__iadd__" ⟨[← newList [], .ref l], []⟩)) _ _ s
  refine wpAny_bind (wpAny_newList (wpAny_pure ⟨Code.quiet_builtin _ (by decide +kernel), codeAny_builtin entry_list_iadd' ?_⟩))
  show wpAny _ _ (Builtin.List.listExtendWith (.ref s.heap.objs.size) (.ref l) (.ref s.heap.objs.size)) _ _ { s with heap := s.heap.push (seqObj "list" #[] 0) }
  unfold Builtin.List.listExtendWith
  have ho' : (s.heap.push (seqObj "list" #[] 0)).get? l = some o := Heap.get?_push_of_some _ ho
  refine wpAny_bind (wpAny_typeOf (T := "tuple") ⟨o, ho', hc⟩ ?_)
  have ht : (Value.type "tuple" == Value.type "tuple") = true := by rfl
  rw [if_pos (by rw [ht]; simp)]
  refine wpAny_bind (listItems_at ho' hd ?_)
  refine wpAny_bind (listItems_at (xs := #[]) (n := 0) (Heap.get?_push_size _ rfl) rfl ?_)
  rw [if_neg (by simp)]
  refine wpAny_bind (listUpdate_at (xs := #[]) (n := 0) (Heap.get?_push_size _ rfl) rfl ?_ (Nat.zero_le _) (by show (#[] ++ vs.toArray).size ≤ sizeLine + 1; simp only [Array.size_append, List.size_toArray, List.length_nil]; omega))
  refine wpAny_pure ?_
  show wpAny (model prog w) A (do
      let o ← load s.heap.objs.size
      match o.data with
      | .seq xs _ => pure xs.toList
      | _ => unsupported "internal:collect") Q E { s with heap := (s.heap.push (seqObj "list" #[] 0)).update s.heap.objs.size (Obj.mapSeq (· ++ vs.toArray)) }
  refine wpAny_bind (wpAny_load (get?_update_seq (Heap.get?_push_size _ rfl) _) ?_)
  show wpAny _ _ (pure ((#[] : Array Value) ++ vs.toArray).toList) Q E _
  rw [show ((#[] : Array Value) ++ vs.toArray).toList = vs by simp]
  exact wpAny_pure h
theorem sorted_of_sortT {l : Addr} {vs : List Value} {kw : List (Str × Value)} {Q : Value → Shared → Prop} (hl : s.heap.IsTuple l vs.toArray) (hL : vs.length ≤ sizeLine) (ha1 : argsOk "sorted" ⟨[.ref l], kw⟩) (ha2 : ∀ x, argsOk "list.sort" ⟨[.ref x], kw⟩)
    (body : ∀ E' : Value → Shared → Prop, wpAny (model prog w) A.in1.in1 (Builtin.«list.sort» ⟨[.ref (s.heap.objs.size + 1)], kw⟩) (fun f s' => f = .done (.ret .none) ∧ Q (.ref (s.heap.objs.size + 1)) s') E' { s with heap := copyHeap s.heap vs }) :
    wpAny (model prog w) A (call (.builtin "sorted") [.ref l] kw) Q E s := by
  refine call_function_entry_kw kind_sorted plain_sorted entry_sorted ha1 ?_
  unfold Builtin.«sorted»
  refine wpAny_bind (m := checkCount "sorted" 1 1 _) (wpAny_pure ?_)
  refine wpAny_bind (collect_tupK hl ?_ hL)
  refine wpAny_bind (wpAny_newList ?_ hL)
  have hsz : ((s.heap.push (seqObj "list" #[] 0)).update s.heap.objs.size (Obj.mapSeq (· ++ vs.toArray))).objs.size = s.heap.objs.size + 1 := by
    rw [Heap.size_update, size_push']
  show wpAny _ _ _ _ _ { s with heap := copyHeap s.heap vs }
  rw [hsz]
  refine wpAny_bind (wpAny_holding (wpAny_call_entry_kw slot_list_sort ⟨_, copyHeap_at s.heap vs, rfl⟩ entry_list_sort ?body (ha2 _)))
  case body =>
    show wpAny (model prog w) A.in1.in1 (Builtin.«list.sort» ⟨[.ref (s.heap.objs.size + 1)], kw⟩) _ _ _
    refine wpAny_mono (body _) (fun f s' hf => ?_) fun _ _ e => e
    obtain ⟨rfl, hq⟩ := hf
    exact ⟨_, rfl, wpAny_pure ⟨_, rfl, hq⟩⟩
theorem sorted_dataT {β : Type} {R : Value → β → Prop} {enc : β → PyData} {vs : List Value} {bs : List β} {l : Addr} {Q : Value → Shared → Prop} (hl : s.heap.IsTuple l vs.toArray) (e : EachIs R vs bs) (er : EachIs (fun v b => ∃ as, Reads s.heap v (enc b) as) vs bs) (hal : AllAlike (bs.map enc)) (hk : Sortable (bs.map enc)) (hL : bs.length ≤ sizeLine)
    (hu : ∀ b, b ∈ bs → A.units + 2 + (enc b).depth < cLine) (h : ∀ out, out.length = bs.length → EachIs R out (bs.mergeSort (dataLe false enc)) → Q (.ref (s.heap.objs.size + 1)) { s with heap := sortedAll s.heap vs (List.toArray out) }) :
    wpAny (model prog w) A (call (.builtin "sorted") [.ref l]) Q E s := by
  have er' : EachIs (fun v b => ∃ as, Reads (sortingHeap (copyHeap s.heap vs) (s.heap.objs.size + 1) vs) v (enc b) as) vs bs := er.mono fun _ _ ⟨as, r⟩ => ⟨as, PyProof.Rows.Reads.keeps (fun _ _ => sorting_copy_old) r⟩
  have hL' : vs.length ≤ sizeLine := by rw [e.length]; exact hL
  refine sorted_of_sortT hl hL' (args_sorted1 _) (fun _ => args_list_sort _) fun _ => list_sort_vals (κ := dataKind (sortingHeap (copyHeap s.heap vs) (s.heap.objs.size + 1) vs) (bs.map enc)) (s := { s with heap := copyHeap s.heap vs }) (copyHeap_at s.heap vs) (SortsAt.data (s := { s with heap := sortingHeap (copyHeap s.heap vs) (s.heap.objs.size + 1) vs }) (each_map (R := fun v d => ∃ as, Reads (sortingHeap (copyHeap s.heap vs) (s.heap.objs.size + 1) vs) v d as) enc er') hal hk (bound_map hu)) hL' ⟨rfl, ?_⟩
  exact h _ (by rw [sortVals_length false rfl]; exact e.length) (sortVals_data false e er' hal)
end
end PySem.W
namespace Kh
open PySem PySem.Spec PyProof.Rows L2
def rSortMT (K : PySem.W.Frag) : List V → Hp → VK → Prop := fun vs H Q => ∃ (a : Addr) (xs : List V) (ds : List PyData), vs = [V.ref a] ∧ (SqL K H a xs ∨ SqT K H a xs) ∧ DpAll K H xs ds ∧ PySem.W.AllAlike ds ∧ PySem.W.Sortable ds ∧ (∀ d ∈ ds, d.depth ≤ 60) ∧
  ∀ (p : Addr) (bs : List (V × PyData)), H p = none → bs.Perm (xs.zip ds) → bs.map Prod.snd = ds.mergeSort leD → Q (.ref p) (upd H p (.lst (bs.map Prod.fst)))
theorem cr_sortMT {X : Cx} (hu : X.A.units + 64 < cLine) : CallR X (.builtin "sorted") (rSortMT X.K) := by
  intro pins s σ H vs us Q I r h
  obtain ⟨a, xs, ds, rfl, hs, hd, hal, hk, hdp, q⟩ := h
  rcases hs with hs | hs
  · exact cr_sortM hu pins s σ H _ us Q I r ⟨a, xs, ds, rfl, hs, hd, hal, hk, hdp, q⟩
  obtain ⟨u, rfl, ru⟩ := r.one
  cases ru
  obtain ⟨its, rv, hl, hz⟩ := I.tuple hs
  have e := each_rel rv (dpa_len hd)
  have er : PySem.W.EachIs (fun (v : Value) (b : V × PyData) => ∃ as, Reads s.heap v b.2 as) its (xs.zip ds) := each_and e fun u b hb ru => Dp.reads I b.2 b.1 u (zip_mem_dp hd b hb) ru
  have hlen : (xs.zip ds).length = xs.length := by rw [List.length_zip, dpa_len hd]; omega
  refine PySem.W.sorted_dataT (enc := Prod.snd) hl e er (by rw [zip_snd hd]; exact hal) (by rw [zip_snd hd]; exact hk) (by rw [hlen]; exact hz) (fun b hb => ?_) fun out ho eo => ?_
  · have hm : b.2 ∈ ds := by
      have h1 : b.2 ∈ (xs.zip ds).map Prod.snd := List.mem_map_of_mem hb
      rwa [zip_snd hd] at h1
    have := hdp _ hm
    omega
  · have hp := List.mergeSort_perm (xs.zip ds) (PySem.W.dataLe false Prod.snd)
    have hv := each_vals eo
    obtain ⟨n, hn⟩ := sortedAll_at s.heap its (List.toArray out)
    have hm : ((xs.zip ds).mergeSort (PySem.W.dataLe false Prod.snd)).map Prod.snd = ds.mergeSort leD := by
      exact (PySem.W.sort_maps (r := PySem.W.dataLe false Prod.snd) (s := leD) (Prod.snd : V × PyData → PyData) (fun _ _ _ _ => rfl)).trans (by rw [zip_snd hd])
    refine ⟨.ref (s.heap.objs.size + 1), upd H (s.heap.objs.size + 1) (.lst (((xs.zip ds).mergeSort (PySem.W.dataLe false Prod.snd)).map Prod.fst)), I.laid (t' := s.toks) (fun b o z => sortedAll_old z) (Nat.le_succ _) ⟨?_, out, n, hv, hn⟩, rfl, q _ _ (I.hok.fresh (Nat.le_succ _)) hp hm⟩
    rw [List.length_map, hp.length_eq, hlen]; exact hz
theorem k_sortMT {X : Cx} {K : PySem.W.Frag} (hu : X.A.units + 64 < cLine) (h : X.K = K := by rfl) : CallR X (.builtin "sorted") (rSortMT K) := by subst h; exact cr_sortMT hu
theorem sort_mt {α : Type} {K : PySem.W.Frag} {S : Addr → Prop} {H : Hp} {x : V} {b : Bool} {ms : List α} {f : α → PyData} {le : α → α → Bool} {Q : VK} (hle : ∀ a ∈ ms, ∀ b ∈ ms, le a b = leD (f a) (f b)) (kn : Kn S H) (hx : Dp K (off S H) x (sq b (ms.map f))) (hal : ∀ a ∈ ms, ∀ b ∈ ms, PySem.W.alike (f a) (f b) = true) (hk : PySem.W.Sortable (ms.map f)) (hdp : ∀ a ∈ ms, (f a).depth ≤ 60)
    (q : ∀ u H', Same H H' → Dp K (off S H') u (.list ((ms.mergeSort le).map f)) → Q u H') : rSortMT K [x] H Q := by
  obtain ⟨l, xs, rfl, h1, d1⟩ := items_at hx (items_sq b _)
  refine ⟨l, xs, ms.map f, rfl, h1.imp (fun z => off_sub.seq z) (fun z => same_t off_sub z), dpa_same off_sub _ _ d1, fun d hd d' hd' => ?_, hk, fun d hd => ?_, fun p bs hp pm em => ?_⟩
  · obtain ⟨a, ha, rfl⟩ := List.mem_map.mp hd
    obtain ⟨b, hb, rfl⟩ := List.mem_map.mp hd'
    exact hal a ha b hb
  · obtain ⟨a, ha, rfl⟩ := List.mem_map.mp hd
    exact hdp a ha
  have pe : bs.map Prod.snd = (ms.mergeSort le).map f := by
    rw [em]; exact (PySem.W.sort_maps f hle).symm
  refine q _ _ (same_new hp) (dp_newL kn hp ?_)
  rw [← pe]
  have go : ∀ cs : List (V × PyData), (∀ b ∈ cs, b ∈ xs.zip (ms.map f)) → DpAll K (off S H) (cs.map Prod.fst) (cs.map Prod.snd) := by
    intro cs
    induction cs with
    | nil => intro _; exact .nil
    | cons c cs ih => intro h; exact .cons (zip_mem_dp d1 c (h c List.mem_cons_self)) (ih fun b hb => h b (List.mem_cons_of_mem _ hb))
  exact go bs fun b hb => pm.mem_iff.mp hb
end Kh

set_option maxRecDepth 100000
set_option maxHeartbeats 4000000
namespace K31
open PySem PySem.Spec PyProof.Rows L2 Kh
/-- told anew, all through: no list of it was there ahead of the call -/
def EvN (K : PySem.W.Frag) (H0 : Hp) (σ : L2.St) (te : TE) (d : PyData) : Prop := ∀ H1, Same H0 H1 → ∀ Q : VK, (∀ u H', Same H1 H' → Np (off (old H1) H') u d → Q u H') → te σ H1 Q
theorem off_sb' {S S0 : Addr → Prop} {H : Hp} (h : ∀ a, S a → S0 a) : Same (off S0 H) (off S H) := fun b o e => by
  have := off_some e
  rw [off_out (fun z => this.1 (h _ z))]
  exact this.2
theorem np_off {S1 S2 : Addr → Prop} {H : Hp} {v : V} {d : PyData} (h : Np (off S1 H) v d) (hs : ∀ a, S2 a → S1 a) : Np (off S2 H) v d := h.same (off_sb' hs)
section
variable {K : PySem.W.Frag} {S : Addr → Prop} {H0 : Hp} {σ : L2.St} {C : Addr}
theorem EvN.ev {te : TE} {d : PyData} (h : EvN K H0 σ te d) (kn : Kn S H0) : EvD K S H0 σ te d := fun H1 s Q q => h H1 s Q fun u H' s' n => q u H' s' (np_off n (kn.same s)).dp
/-- a walk over a list that is known itself -/
theorem lc_np {R : Hp → V → PyData → Prop} (rp : Rp R) {S S2 : Addr → Prop} {H : Hp} {σ : L2.St} {t te : TE} {tt : TT} {sl : Nat} {vs : List Nat} {Q : VK} {α : Type} {ms : List α} {f : α → PyData} (p : α → Bool) (g : α → PyData) (h12 : ∀ a, S a → S2 a) (kn : Kn S2 H)
    (hev : ∀ Q : VK, (∀ u H1, Same H H1 → Np (off S2 H1) u (.list (ms.map f)) → Q u H1) → t σ H Q) (hn : ms.length ≤ 1000) (hw : ∀ x, wipe ((wipe σ vs).set sl (some x)) vs = wipe σ vs)
    (test : ∀ m ∈ ms, ∀ x H1 Sa Sb, Same H H1 → Kn Sb H1 → (∀ a, Sa a → Sb a) → Np (off Sb H1) x (f m) → (∀ a, S2 a → Sb a) → Same (off S H) (off Sa H1) → ∀ Q : Bool → Hp → Prop, (∀ H', Same H1 H' → Q (p m) H') → tt ((wipe σ vs).set sl (some x)) H1 Q)
    (body : ∀ m ∈ ms, p m = true → ∀ x H1 Sa Sb, Same H H1 → Kn Sb H1 → (∀ a, Sa a → Sb a) → Np (off Sb H1) x (f m) → (∀ a, S2 a → Sb a) → Same (off S H) (off Sa H1) → ∀ Q : VK, (∀ y H', Same H1 H' → R (off Sb H') y (g m) → Q y H') → te ((wipe σ vs).set sl (some x)) H1 Q)
    (done : ∀ D H1, H D = none → Same H H1 → R (off S2 H1) (.ref D) (.list ((ms.filter p).map g)) → Q (.ref D) H1) :
    tLc (fun σ H R => iList K t σ H R ∨ iTup K t σ H R) (gName sl) tt te vs σ H Q := by
  refine .inl (hev _ fun u H1 s1 nu => ?_)
  obtain ⟨a, xs, rfl, ha, l, el⟩ := np_list (ds := ms.map f) nu
  rw [List.length_map] at l
  have ha' := off_some ha
  have kn1 := kn.same s1
  refine ⟨a, rfl, ⟨xs, sqL ha'.2⟩, ?_⟩
  intro D hD
  have at_ : ∀ {j : Nat} {x : V}, xs[j]? = some x → ∃ m, ms[j]? = some m ∧ m ∈ ms ∧ Np (off S2 H1) x (f m) := fun {j x} hj => by
    have jl := (List.getElem?_eq_some_iff.mp hj).1
    have jm : j < ms.length := by omega
    exact ⟨ms[j], List.getElem?_eq_getElem jm, List.getElem_mem jm, el j x (f ms[j]) hj (by rw [List.getElem?_map, List.getElem?_eq_getElem jm]; rfl)⟩
  refine lc_filt (Qd := Q (.ref D)) (G := fun H' => SqL K H' a xs) (walk_list (K := K) (a := a) (xs := xs)) (fun j x => xs[j]? = some x) (fun i H x H' _ y => y) (pick ms false p) (fun j y H => R (off (plus S2 D) H) y (pick ms .none g j)) (fun H s => sqL (s _ _ ha'.2)) hD (by omega) hw (fun j y H H' e h => rp.same (off_but e) h) (fun j x H2 hj xj s hd Q q => ?_) (fun j x H2 hj xj pj s hd Q q => ?_) (fun ys H2 py s hd => ?_)
  · obtain ⟨m, hm, mm, nx⟩ := at_ xj
    refine test m mm x H2 (plus S D) (plus S2 D) (s1.trans s) ((kn1.same s).plus hd) (fun a z => z.imp (h12 a) id) (nx.same (off_plus hD s)) (fun _ h => .inl h) ((off_same s1).trans (off_plus hD s)) Q fun H' s' => ?_
    have := q H' s'
    rw [pick_eq hm] at this
    exact this
  · obtain ⟨m, hm, mm, nx⟩ := at_ xj
    rw [pick_eq hm] at pj
    refine body m mm pj x H2 (plus S D) (plus S2 D) (s1.trans s) ((kn1.same s).plus hd) (fun a z => z.imp (h12 a) id) (nx.same (off_plus hD s)) (fun _ h => .inl h) ((off_same s1).trans (off_plus hD s)) Q fun y H' s' r => q y H' s' ?_
    rw [pick_eq hm]
    exact r
  · refine done D H2 (s1.free hD) (s1.trans s) ?_
    rw [l] at py
    have e := range_filter (l := ms) (pt := pick ms false p) (p := p) (f := pick ms .none g) (g := g) fun i x e => ⟨pick_eq e, pick_eq e⟩
    rw [← e]
    refine rp.lst (by rw [off_out (kn1.new hD)]; exact hd) (by rw [List.length_map]; exact (Paired.length py).symm) fun i v d h1 h2 => ?_
    have go : ∀ {l : List Nat} {ys : List V}, Paired (fun j y => R (off (plus S2 D) H2) y (pick ms .none g j)) l ys → ∀ (i : Nat) v d, ys[i]? = some v → (l.map (pick ms .none g))[i]? = some d → R (off (plus S2 D) H2) v d := by
      intro l ys pr
      induction pr with
      | nil => intro i v d h; simp at h
      | cons r t ih =>
        intro i v d h h'
        cases i with
        | zero => simp at h h'; subst h; subst h'; exact r
        | succ i => exact ih i v d (by simpa using h) (by simpa using h')
    exact rp.same (off_fin (D := D)) (go py i v d h1 h2)
end
end K31

set_option maxRecDepth 100000
set_option maxHeartbeats 4000000
namespace K31
open PySem PySem.Spec PyProof.Rows L2 Kh
theorem old_mono {H1 H2 : Hp} (s : Same H1 H2) {a : Addr} (h : old H1 a) : old H2 a := by
  unfold old at h ⊢
  cases e : H1 a with
  | none => exact (h e).elim
  | some o => exact some_ne (s _ _ e)
theorem np_ivs {S : Addr → Prop} {H : Hp} {D : Addr} {ns : List Nat} (n : ¬ S D) (h : H D = some (.lst (ivs ns))) : Np (off S H) (.ref D) (nL ns) :=
  .lst (by rw [off_out n]; exact h) (by simp [ivs]) fun i x d h1 h2 => by
    unfold ivs at h1
    rw [List.getElem?_map] at h1 h2
    cases e : ns[i]? with
    | none => rw [e] at h1; cases h1
    | some n => rw [e] at h1 h2; cases h1; cases h2; exact .int _
theorem paired_map {F : Nat → V} : ∀ {l : List Nat} {ys : List V}, Paired (fun j y => y = F j) l ys → ys = l.map F := fun p => by
  induction p with
  | nil => rfl
  | cons r t ih => rw [r, ih]; rfl
theorem cat_np {S : Addr → Prop} {K : PySem.W.Frag} {H : Hp} {x y : V} {ds es : List PyData} {Q : VK} (kn : Kn S H) (hx : Np (off S H) x (.list ds)) (hy : Np (off S H) y (.list es)) (hz : ds.length + es.length ≤ 100000)
    (q : ∀ u H', Same H H' → Np (off S H') u (.list (ds ++ es)) → Q u H') : rCatS K x y H Q := by
  obtain ⟨l, xs, rfl, h1, l1, e1⟩ := np_list hx
  obtain ⟨b, zs, rfl, h2, l2, e2⟩ := np_list hy
  refine ⟨l, b, xs, zs, rfl, rfl, sqL (off_sub _ _ h1), sqL (off_sub _ _ h2), ?_, fun p hp => q _ _ (same_new hp) (np_new kn hp (by rw [List.length_append, List.length_append, l1, l2]) fun i v d g1 g2 => ?_)⟩
  · rw [l1, l2]; exact Nat.le_trans hz (by decide)
  · by_cases c : i < xs.length
    · rw [List.getElem?_append_left c] at g1
      rw [List.getElem?_append_left (by omega)] at g2
      exact e1 i v d g1 g2
    · rw [List.getElem?_append_right (by omega)] at g1
      rw [List.getElem?_append_right (by omega)] at g2
      rw [l1] at g1
      exact e2 _ v d g1 g2
section
variable {K : PySem.W.Frag} {S : Addr → Prop} {H0 : Hp} {σ : L2.St} {C : Addr}
theorem ev_filtN {t : TE} {tt : TT} {sl : Nat} {vs : List Nat} (b : Bool) (ms : List Nat) (p : Nat → Bool) (kn : Kn S H0) (h : EvD K S H0 σ t (sq b (ms.map nD))) (few : ms.length ≤ 1000) (hw : ∀ x, wipe ((wipe σ vs).set sl (some x)) vs = wipe σ vs)
    (hs : ∀ v, ((wipe σ vs).set sl (some v))[sl]? = some (some v)) (test : ∀ m ∈ ms, ∀ H1 S', Kn S' H1 → Same (off S H0) (off S' H1) → EvT H1 ((wipe σ vs).set sl (some (.int (m : Nat)))) tt (p m)) :
    EvN K H0 σ (tLc (fun σ H R => iList K t σ H R ∨ iTup K t σ H R) (gName sl) tt (tVar sl) vs) (nL (ms.filter p)) := fun H1 s Q q => by
  refine it_any (K := K) (S := S) (fun Q q => h H1 s Q q) fun J xs H2 s2 ha w => ?_
  have ex := dpa_nats ha
  subst ex
  have kn2 := (kn.same s).same s2
  intro D hD
  have at_ : ∀ {j : Nat} {x : V}, (ms.map fun n : Nat => V.int (n : Nat))[j]? = some x → ∃ m, ms[j]? = some m ∧ m ∈ ms ∧ x = .int (m : Nat) := fun {j x} hj => by
    rw [List.getElem?_map] at hj
    cases e : ms[j]? with
    | none => rw [e] at hj; cases hj
    | some m => rw [e] at hj; cases hj; exact ⟨m, rfl, List.mem_of_getElem? e, rfl⟩
  refine lc_filt (Qd := Q (.ref D)) w (fun j x => (ms.map fun n : Nat => V.int (n : Nat))[j]? = some x) (fun i H x H' _ y => y) (pick ms false p) (fun j y H => y = pick ms .non (fun m : Nat => V.int (m : Nat)) j) (fun H s => off_sub.trans s) hD (by rw [List.length_map]; omega) hw (fun j y H H' _ h => h) (fun j x H3 hj xj s3 hd Q q => ?_) (fun j x H3 hj xj pj s3 hd Q q => ?_) (fun ys H3 py s3 hd => ?_)
  · obtain ⟨m, hm, mm, rfl⟩ := at_ xj
    refine test m mm H3 (plus S D) ((kn2.same s3).plus hd) ((off_same (s.trans s2)).trans (off_plus hD s3)) H3 (Same.refl _) Q fun H' s' => ?_
    have := q H' s'
    rw [pick_eq hm] at this
    exact this
  · obtain ⟨m, hm, mm, rfl⟩ := at_ xj
    exact t_var (hs _) (q _ _ (Same.refl _) (by rw [pick_eq hm]))
  · have e := paired_map py
    rw [List.length_map] at e
    have e2 := range_filter (l := ms) (pt := pick ms false p) (p := p) (f := pick ms .non fun m : Nat => V.int (m : Nat)) (g := fun m : Nat => V.int (m : Nat)) fun i x e => ⟨pick_eq e, pick_eq e⟩
    rw [e2] at e
    subst e
    exact q _ _ (s2.trans s3) (np_ivs (fun z => z (s2.free hD)) hd)
theorem ev_rfiltN {tt : TT} {ta : TA} {sl : Nat} {vs : List Nat} (n : Nat) (p : Nat → Bool) (kn : Kn S H0) (hn : n ≤ 1000) (hev : ∀ H1, Same H0 H1 → ∀ q : List V → Hp → Prop, (∀ H2, Same H1 H2 → q [.int (n : Nat)] H2) → ta σ H1 q) (hw : ∀ x, wipe ((wipe σ vs).set sl (some x)) vs = wipe σ vs)
    (hs : ∀ v, ((wipe σ vs).set sl (some v))[sl]? = some (some v)) (test : ∀ m, m < n → ∀ H1 S', Kn S' H1 → Same (off S H0) (off S' H1) → EvT H1 ((wipe σ vs).set sl (some (.int (m : Nat)))) tt (p m)) :
    EvN K H0 σ (tLc (iRng1 ta) (gName sl) tt (tVar sl) vs) (nL ((List.range n).filter p)) := fun H1 s Q q => by
  refine hev H1 s _ fun H2 s2 => ⟨(n : Nat), rfl, by omega, by omega, ?_⟩
  have kn2 := (kn.same s).same s2
  intro D hD
  have w : Walk (Itr 0 n) n (fun _ => True) (YFn fun i => .int (0 + i)) := walk_range
  refine lc_filt (Qd := Q (.ref D)) w (fun j x => x = .int (j : Nat)) (fun i H x H' _ y => ⟨y.1, by rw [y.2]; show V.int (0 + _) = _; rw [Int.zero_add]⟩) p (fun j y H => y = .int (j : Nat)) (fun H s => trivial) hD (by omega) hw (fun j y H H' _ h => h) (fun j x H3 hj xj s3 hd Q q => ?_) (fun j x H3 hj xj pj s3 hd Q q => ?_) (fun ys H3 py s3 hd => ?_)
  · subst xj
    exact test j hj H3 (plus S D) ((kn2.same s3).plus hd) ((off_same (s.trans s2)).trans (off_plus hD s3)) H3 (Same.refl _) Q q
  · subst xj
    exact t_var (hs _) (q _ _ (Same.refl _) rfl)
  · have e := paired_map (F := fun j : Nat => V.int (j : Nat)) py
    subst e
    exact q _ _ (s2.trans s3) (np_ivs (fun z => z (s2.free hD)) hd)
end
section
variable {P : Program} {w : World} {K : PySem.W.Frag} {mg : Str → Option Value} {base : Heap} {a : Nat → Addr} {fd : Nat → FuncData} {C : Addr} {tk : Nat → Tok}
/-- a function of a table that tells a list, new all through -/
def spTN {α : Type} (K : PySem.W.Frag) (C : Addr) (enc : α → List PyData) (pre : List (List Nat) → α → Prop) (f : List (List Nat) → α → PyData) : Sp := fun vs H Q _ => ∃ (S : Addr → Prop) (R : List (List Nat)) (x : Addr) (y : α) (us : List V), vs = .ref x :: us ∧ Kn S H ∧ TabAt K C (off S H) R x ∧ Tb R ∧ DpAll K (off S H) us (enc y) ∧ pre R y ∧
  ∀ v H', Same H H' → Np (off (old H) H') v (f R y) → Q v H'
theorem spTN_len {α : Type} {enc : α → List PyData} {pre : List (List Nat) → α → Prop} {f : List (List Nat) → α → PyData} {n : Nat} (hn : ∀ x, (enc x).length = n) {vs : List V} {H : Hp} {Q : VK} {E : XK} (h : spTN K C enc pre f vs H Q E) : vs.length = n + 1 := by
  obtain ⟨S, R, x, y, us, rfl, _, _, _, hd, _⟩ := h
  rw [List.length_cons, dpa_len hd, hn]
theorem ev_callN {S : Addr → Prop} {H0 : Hp} {σ : L2.St} {α : Type} {enc : α → List PyData} {pre : List (List Nat) → α → Prop} {f : List (List Nat) → α → PyData} {ta : TA} {k : Nat} {x : Addr} {R : List (List Nat)} (y : α) (kn : Kn S H0) (ht : TabAt K C (off S H0) R x) (tb : Tb R) (hk : σ[k]? = some (some (.ref x))) (h : EvA K S H0 σ ta (enc y)) (hp : pre R y) : EvN K H0 σ (tCall (spTN K C enc pre f) [] E0 (tCons (tVar k) ta)) (f R y) := fun H1 s Q q =>
  t_call (a_cons (t_var hk (h H1 s _ fun us H2 s2 d2 => ⟨S, R, x, y, us, rfl, kn.same (s.trans s2), ht.same (off_same (s.trans s2)), tb, d2, hp, fun v H' s' d' => q v H' (s2.trans s') (np_off d' fun a z => old_mono s2 z)⟩)))
end
end K31

set_option maxRecDepth 100000
set_option maxHeartbeats 4000000
namespace K31
open PySem PySem.Spec PyProof.Rows L2 Kh
abbrev leL (p q : List Nat) : Bool := leD (nL p) (nL q)
abbrev leN (p q : Nat) : Bool := leD (nD p) (nD q)
theorem leL_total : PySem.W.TotalLe leL := ⟨fun a b c => leD_total.trans _ _ _, fun a b => leD_total.total _ _⟩
theorem leN_total : PySem.W.TotalLe leN := ⟨fun a b c => leD_total.trans _ _ _, fun a b => leD_total.total _ _⟩
theorem leN_eq (p q : Nat) : leN p q = decide (p ≤ q) := by
  have := congrFun (congrFun (PySem.W.dataLe_int (β := Nat) fun n => ((n : Nat) : Int)) p) q
  refine Eq.trans this (decide_eq_decide.mpr (by omega))
def asI (m : List Nat) : List Int := m.map fun n : Nat => ((n : Nat) : Int)
theorem asI_inj {m l : List Nat} (h : asI m = asI l) : m = l := by
  refine List.map_inj_right (f := fun n : Nat => ((n : Nat) : Int)) (fun x y h => ?_) |>.mp h
  have : ((x : Nat) : Int) = ((y : Nat) : Int) := h
  omega
theorem leL_eq (p q : List Nat) : leL p q = decide (asI p ≤ asI q) := by
  have := congrFun (congrFun (PySem.W.dataLe_rows (β := List Nat) asI) p) q
  refine Eq.trans ?_ this
  show leD (nL p) (nL q) = leD (.list ((asI p).map .int)) (.list ((asI q).map .int))
  unfold nL asI
  rw [nD_map, nD_map]
theorem leN_anti (a b : Nat) (h1 : leN a b = true) (h2 : leN b a = true) : a = b := by
  rw [leN_eq] at h1 h2
  have := of_decide_eq_true h1
  have := of_decide_eq_true h2
  omega
theorem leL_anti (a b : List Nat) (h1 : leL a b = true) (h2 : leL b a = true) : a = b := by
  rw [leL_eq] at h1 h2
  exact asI_inj (List.le_antisymm (of_decide_eq_true h1) (of_decide_eq_true h2))
theorem alike_nL (a b : List Nat) : PySem.W.alike (nL a) (nL b) = true := by
  unfold nL
  simp only [PySem.W.alike]
  rw [nD_map, nD_map]; exact PySem.W.alike_ints _ _
theorem depth_nL (a : List Nat) : (nL a).depth ≤ 60 := by
  have h : PyData.depthAll (a.map nD) = 0 := by rw [nD_map]; exact PySem.W.depth_ints _
  unfold nL
  simp only [PyData.depth, h]
  decide
theorem sortable_nL (ms : List (List Nat)) : PySem.W.Sortable (ms.map nL) := PySem.W.Sortable.others fun b => ⟨fun h => (nomatch h), fun xs h => (nomatch h)⟩
theorem np_sort {S : Addr → Prop} {K : PySem.W.Frag} {H : Hp} {x : V} {L : List (List Nat)} {Q : VK} (kn : Kn S H) (hx : Np (off S H) x (nLL L)) (hal : ∀ a ∈ L, ∀ b ∈ L, PySem.W.alike (nL a) (nL b) = true) (hk : PySem.W.Sortable (L.map nL)) (hdp : ∀ a ∈ L, (nL a).depth ≤ 60)
    (q : ∀ u H', Same H H' → Np (off S H') u (nLL (L.mergeSort leL)) → Q u H') : rSortM K [x] H Q := by
  obtain ⟨l, xs, rfl, h1, l1, e1⟩ := np_list (ds := L.map nL) hx
  have da := hx.dp (K := K)
  have dl : DpAll K (off S H) xs (L.map nL) := by
    have go : ∀ {xs : List V} {ds : List PyData}, xs.length = ds.length → (∀ (i : Nat) x d, xs[i]? = some x → ds[i]? = some d → Np (off S H) x d) → DpAll K (off S H) xs ds := by
      intro xs
      induction xs with
      | nil => intro ds h _; cases ds with | nil => exact .nil | cons _ _ => simp at h
      | cons x xs ih =>
        intro ds h t
        cases ds with
        | nil => simp at h
        | cons d ds => exact .cons (t 0 x d rfl rfl).dp (ih (by simpa using h) fun i y e h1 h2 => t (i + 1) y e (by simpa using h1) (by simpa using h2))
    exact go l1 e1
  refine ⟨l, xs, L.map nL, rfl, sqL (off_sub _ _ h1), dpa_same off_sub _ _ dl, fun d hd d' hd' => ?_, hk, fun d hd => ?_, fun p bs hp pm em => ?_⟩
  · obtain ⟨a, ha, rfl⟩ := List.mem_map.mp hd
    obtain ⟨b, hb, rfl⟩ := List.mem_map.mp hd'
    exact hal a ha b hb
  · obtain ⟨a, ha, rfl⟩ := List.mem_map.mp hd
    exact hdp a ha
  have pe : bs.map Prod.snd = (L.mergeSort leL).map nL := by
    rw [em]; exact (PySem.W.sort_maps nL fun _ _ _ _ => rfl).symm
  refine q _ _ (same_new hp) ?_
  unfold nLL
  rw [← pe]
  refine np_new kn hp (by simp) fun i v d g1 g2 => ?_
  rw [List.getElem?_map] at g1 g2
  cases e : bs[i]? with
  | none => rw [e] at g1; cases g1
  | some b =>
    rw [e] at g1 g2
    cases g1
    cases g2
    have hb := pm.mem_iff.mp (List.mem_of_getElem? e)
    obtain ⟨j, hj⟩ := List.mem_iff_getElem?.mp hb
    have := List.getElem?_zip_eq_some.mp hj
    exact e1 j _ _ this.1 this.2
section
variable {P : Program} {w : World} {K : PySem.W.Frag} {mg : Str → Option Value} {base : Heap} {a : Nat → Addr} {fd : Nat → FuncData} {C : Addr} {tk : Nat → Tok}
theorem subs_step {l : List Nat} {i n : Nat} (h : l[i]? = some n) : subs (l.take (i + 1)) = subs (l.take i) ++ (subs (l.take i)).map fun m => m ++ [n] := by
  rw [take_snoc' h, subs_snoc]
theorem subs_few {l : List Nat} (h : l.length ≤ 7) (i : Nat) : (subs (l.take i)).length ≤ 128 := by
  rw [subs_len _ _ rfl]
  have : (l.take i).length ≤ 7 := by rw [List.length_take]; omega
  exact Nat.le_trans (Nat.pow_le_pow_right (by decide) this) (by decide)
theorem sub_few {l : List Nat} (h : l.length ≤ 7) (i : Nat) : ∀ m ∈ subs (l.take i), m.length ≤ 7 := fun m hm => by
  have h1 := (mem_subs.mp hm).length_le
  rw [List.length_take] at h1
  omega
end
end K31

set_option maxRecDepth 100000
set_option maxHeartbeats 4000000
namespace K31
open PySem PySem.Spec PyProof.Rows L2 Kh
theorem any_flat {α β : Type} (l : List α) (f : α → List β) (p : β → Bool) : (l.flatMap f).any p = (l.map fun a => (f a).any p).any id := by
  induction l with
  | nil => rfl
  | cons a l ih => rw [List.flatMap_cons, List.any_append, ih, List.map_cons, List.any_cons]; rfl
theorem isP_any (R : List (List Nat)) (v : Nat) : isP R v = !(((oth R.length v).map fun one => ((oth R.length v).map fun other => decide (at_ R one other = v)).any id).any id) := by
  unfold isP
  rw [any_flat]
theorem oth_few (n v : Nat) : (oth n v).length ≤ n := by
  have := List.length_filter_le (fun m => !decide (m = v)) (List.range n)
  rw [List.length_range] at this
  exact this
theorem oth_lt {n v m : Nat} (h : m ∈ oth n v) : m < n := List.mem_range.mp (List.mem_filter.mp h).1
def ssub (l : List Nat) : List (List Nat) := (subs l).mergeSort leL
section
variable {K : PySem.W.Frag} {S : Addr → Prop} {H0 : Hp} {σ : L2.St}
theorem ev_rc {i j k n m : Nat} {vR : V} {R : List (List Nat)} (tb : Tb R) (hk : σ[k]? = some (some vR)) (dR : Dp K (off S H0) vR (nLL R)) (hi : σ[i]? = some (some (.int (n : Nat)))) (hj : σ[j]? = some (some (.int (m : Nat)))) (hn : n < R.length) (hm : m < R.length) :
    EvD K S H0 σ (tOp (rIx K) (tOp (rIx K) (tVar k) (tVar i)) (tVar j)) (nD (at_ R n m)) := fun H1 s Q q =>
  t_op (t_op (t_var hk (t_var hi (ix_d (i := n) off_sub (dp_same (off_same s) _ _ dR) rfl (row_get tb nL hn) fun u du => t_var hj (ix_d (i := m) off_sub du rfl (num_get tb hn hm) fun z dz => q z H1 (Same.refl _) dz)))))
theorem et_eqn {t1 t2 : TE} {n m : Nat} (h : EvD K S H0 σ t1 (nD n)) (h2 : EvD K S H0 σ t2 (nD m)) : EvT H0 σ (tTest (tOp rEq t1 t2)) (decide (n = m)) := fun H1 s Q q =>
  b_test (t_op (h H1 s _ fun u H2 s2 d2 => h2 H2 (s.trans s2) _ fun v H3 s3 d3 => by cases d2; cases d3; exact ⟨rfl, _, rfl, by rw [dec_int]; exact q H3 (s2.trans s3)⟩))
theorem ev_eqn {t1 t2 : TE} {n m : Nat} (h : EvD K S H0 σ t1 (nD n)) (h2 : EvD K S H0 σ t2 (nD m)) : EvD K S H0 σ (tOp rEq t1 t2) (.bool (decide (n = m))) := fun H1 s Q q =>
  t_op (h H1 s _ fun u H2 s2 d2 => h2 H2 (s.trans s2) _ fun v H3 s3 d3 => by cases d2; cases d3; exact ⟨rfl, by rw [dec_int]; exact q _ H3 (s2.trans s3) (.bl _)⟩)
theorem in_rows {H : Hp} {u v : V} {l : List Nat} {L : List (List Nat)} {Q : VK} (h1 : Dp K (off S H) u (nL l)) (h2 : Dp K (off S H) v (nLL L)) (q : Q (.bl (decide (l ∈ L))) H) : rInD K u v H Q := by
  refine ⟨nL l, L.map nL, dp_same off_sub _ _ h1, dp_same off_sub _ _ h2, shd_shaped (shd_nL l), shaped_nLL L, ?_⟩
  have e : ∀ L : List (List Nat), ((L.map nL).any fun z => PyData.eqv z (nL l)) = decide (l ∈ L) := fun L => by
    induction L with
    | nil => rfl
    | cons m L ih =>
      rw [List.map_cons, List.any_cons, ih, eqv_nums]
      by_cases c : m = l
      · subst c; simp
      · have c2 : ¬ l = m := fun z => c z.symm
        simp [c, c2]
  rw [e]; exact q
end
end K31

set_option maxRecDepth 100000
set_option maxHeartbeats 4000000
namespace K31
open PySem PySem.Spec PyProof.Rows L2 Kh
section
variable {P : Program} {w : World} {K : PySem.W.Frag} {mg : Str → Option Value} {base : Heap} {a : Nat → Addr} {fd : Nat → FuncData} {C : Addr} {tk : Nat → Tok}
abbrev spLJoin (K : PySem.W.Frag) : Sp := spP K (fun x : List (List Nat) × List Nat => [nLL x.1, nL x.2]) (fun x => Tb x.1 ∧ x.2 ≠ [] ∧ (∀ n ∈ x.2, n < x.1.length) ∧ x.2.length ≤ 1000) fun x => nD (jn x.1 x.2)
theorem ok__law_join (T : Txt K mg a fd C tk) : FnOk P w K mg base CX0 1 (a 32) (fd 32) ["_law_rows", "_law_values"] (spLJoin K) := by
  refine T.F__law_join.ok sc__law_join (fun vs H Q E h => spP_len (fun _ => rfl) h) (fun cdv A outer s H vs Q E hr h => ?_)
  obtain ⟨S, ⟨R, l⟩, kn, hd, ⟨tb, ne, lt, ln⟩, q⟩ := h
  obtain - | ⟨dR, - | ⟨dl, ⟨⟩⟩⟩ := hd
  rename_i vR vl
  replace dR : Dp K (off S H) vR (nLL R) := dR
  replace dl : Dp K (off S H) vl (.list (l.map nD)) := dl
  replace tb : Tb R := tb
  replace ne : l ≠ [] := ne
  replace lt : ∀ n ∈ l, n < R.length := lt
  replace ln : l.length ≤ 1000 := ln
  replace q : ∀ z H', Same H H' → Dp K (off S H') z (nD (jn R l)) → Q z H' := q
  refine ⟨_, (pss_cons (ps_set (i := 2) sc__law_join.nd rfl (Or.inl rfl) (pe_ix (k_ix (K := K)) (pv 1) pe_int (fun _ _ => rfl)))
      (pss_cons (ps_for PassesOwn.never rfl (k_pi (K := K) (pe_slice (k_sl (K := K)) (pv 1) (po_some pe_int) po_none)) (pg_name (i := 3) sc__law_join.nd rfl (Or.inl rfl))
        (pss_one (ps_set (i := 2) sc__law_join.nd rfl (Or.inl rfl) (pe_ix (k_ix (K := K)) (pe_ix (k_ix (K := K)) (pv 0) (pv 2) (fun _ _ => rfl)) (pv 3) (fun _ _ => rfl)))))
      (pss_one (ps_ret (pv 2))))), ?_⟩
  obtain ⟨v0, r, rfl⟩ : ∃ v r, l = v :: r := by cases l with | nil => exact (ne rfl).elim | cons v r => exact ⟨v, r, rfl⟩
  refine s_seq (s_set (t_op (t_var rfl (t_c (ix_d (i := 0) off_sub dl rfl rfl fun z dz => nx_of ?_)))))
  cases dz
  refine s_seq (forM (S := S) false r nD kn (fun Q q => t_sl (t_var rfl (o_some (t_c ⟨1, rfl, o_none (sl_drop (ms := v0 :: r) (m := 1) kn dl (by simp) fun u H1 s1 d1 => q u H1 s1 d1)⟩)))) fun H1 s1 kn1 => ?_)
  refine ⟨fun i σ' H' => ∃ x3, σ' = [some vR, some vl, some (.int ((r.take i).foldl (at_ R) v0 : Nat)), x3] ∧ Same H1 H', ⟨_, rfl, Same.refl _⟩, fun i σ' H' ⟨_, _, s⟩ => off_sub.trans s, ?_, ?_⟩
  · rintro i m y σ' H2 hm hi hmem dy ⟨x3, rfl, s2⟩
    cases dy
    have s12 := s1.trans s2
    have dR2 := dp_same (off_same s12) _ _ dR
    have fl := fold_lt tb (r.take i) v0 (lt v0 List.mem_cons_self) fun n hn => lt n (List.mem_cons_of_mem _ (List.mem_of_mem_take hn))
    refine g_name (s_set (ev_rc (K := K) (S := S) tb rfl dR2 rfl rfl fl (lt m (List.mem_cons_of_mem _ hmem)) H2 (Same.refl _) _ fun z H3 s3 dz => ?_))
    cases dz
    refine nx_of ⟨some (.int (m : Nat)), ?_, s2.trans s3⟩
    rw [take_snoc' hm, List.foldl_append]; rfl
  · rintro σ' H2 ⟨x3, rfl, s2⟩
    rw [List.take_length]
    exact nx_of (s_ret (t_var rfl (q _ _ (s1.trans s2) (.int _))))
end
end K31

set_option maxRecDepth 100000
set_option maxHeartbeats 4000000
namespace K31
open PySem PySem.Spec PyProof.Rows L2 Kh
section
variable {R : List (List Nat)}
theorem mem_ssub {p l : List Nat} : l ∈ ssub p ↔ l.Sublist p := by
  unfold ssub
  rw [(List.mergeSort_perm _ _).mem_iff, mem_subs]
theorem ssub_few {l : List Nat} (h : l.length ≤ 7) : (ssub l).length ≤ 128 := by
  unfold ssub
  rw [(List.mergeSort_perm _ _).length_eq]
  have := subs_few h l.length
  rw [List.take_length] at this
  exact this
end
end K31

set_option maxRecDepth 100000
set_option maxHeartbeats 1000000
/-! the set of a list or a tuple of ints, and how many it has; three keywords turned round -/
namespace Kh
open PySem PySem.Spec PyProof.Rows L2
def rSetSq (K : PySem.W.Frag) (w : World) : List V → Hp → VK → Prop := fun vs H Q => ∃ (l : Addr) (ks : List Int), vs = [V.ref l] ∧ (SqL K H l (ks.map V.int) ∨ SqT K H l (ks.map V.int)) ∧ ks.length ≤ 1000 ∧
  ∀ (p : Addr) (n : Nat), H p = none → n ≤ ks.length → Q (.ref p) (upd H p (SetO w p (fun j => decide (j ∈ ks)) n))
section
variable {X : Cx}
theorem cr_setSq (hc : X.calm = true) : CallR X (.type "set") (rSetSq X.K X.w) := by
  intro pins s σ H xs us Q I r h
  obtain ⟨l, ks, rfl, hs, hz, q⟩ := h
  rcases hs with hs | hs
  · exact cr_setOf hc pins s σ H _ us Q I r ⟨l, ks, rfl, hs, hz, q⟩
  obtain ⟨u, rfl, ru⟩ := r.one
  cases ru
  obtain ⟨its, rv, pt, hlen⟩ := I.tuple hs
  refine call_set_tupI ks (I.ok.hd hc) (show s.heap.IsTuple l its.toArray from pt) (by simpa using ints_of_vals rv) (Nat.lt_of_le_of_lt (show ks.length + 1 ≤ 1001 by omega) (by decide)) fun g1 tk c hS hc2 kp => ?_
  exact ⟨.ref _, upd H s.heap.objs.size (SetO X.w s.heap.objs.size (fun j => decide (j ∈ ks)) c), I.laid (t' := tk) kp (Nat.le_refl _) (setO_new hS), rfl, q _ c (I.hok.fresh (Nat.le_refl _)) hc2⟩
theorem k_setSq {K : PySem.W.Frag} {w : World} (hc : X.calm = true) (h : X.K = K := by rfl) (hw : X.w = w := by rfl) : CallR X (.type "set") (rSetSq K w) := by subst h; subst hw; exact cr_setSq hc
theorem k_lenSet {w : World} (hw : X.w = w := by rfl) : CallR X (.builtin "len") (rLenSet w) := by subst hw; exact cr_lenSet
end
theorem sub_len : ∀ {ns ks : List Int}, ns.Nodup → (∀ k ∈ ns, k ∈ ks) → ns.length ≤ ks.length
  | [], _, _, _ => Nat.zero_le _
  | n :: ns, ks, nd, h => by
    obtain ⟨n1, n2⟩ := List.nodup_cons.mp nd
    have hm := h n List.mem_cons_self
    have := sub_len (ks := ks.erase n) n2 fun k hk => by
      have ne : k ≠ n := fun e => n1 (by rw [← e]; exact hk)
      exact (List.mem_erase_of_ne ne).mpr (h k (List.mem_cons_of_mem _ hk))
    rw [List.length_erase_of_mem hm] at this
    have := List.length_pos_of_mem hm
    rw [List.length_cons]; omega
theorem nd_len : ∀ {ks ns : List Int}, ns.Nodup → (∀ k, k ∈ ns ↔ k ∈ ks) → ns.length = ks.length → ks.Nodup
  | [], _, _, _, _ => List.nodup_nil
  | k :: ks, ns, nd, h, e => by
    by_cases c : k ∈ ks
    · have := sub_len (ks := ks) nd fun x hx => by
        rcases List.mem_cons.mp ((h x).mp hx) with rfl | z
        · exact c
        · exact z
      rw [List.length_cons] at e
      omega
    · have hk := (h k).mpr List.mem_cons_self
      refine List.nodup_cons.mpr ⟨c, nd_len (ns := ns.erase k) (nd.erase k) (fun x => ?_) (by rw [List.length_erase_of_mem hk, e, List.length_cons]; omega)⟩
      rw [nd.mem_erase_iff, h, List.mem_cons]
      exact ⟨fun z => z.2.resolve_left z.1, fun z => ⟨fun e2 => c (e2 ▸ z), .inr z⟩⟩
/-- how many unlike ones: as many as all exactly if there are no like ones -/
theorem nodup_len {ks ns : List Int} (nd : ns.Nodup) (h : ∀ k, k ∈ ns ↔ k ∈ ks) : ns.length = ks.length ↔ ks.Nodup := by
  constructor
  · intro e
    exact nd_len nd h e
  · intro hk
    exact ((List.perm_ext_iff_of_nodup nd hk).mpr h).length_eq
/-- len(set(x)) of data -/
theorem len_set {K : PySem.W.Frag} {w : World} {S : Addr → Prop} {H : Hp} {v : V} {b : Bool} {ns : List Nat} {Q : VK} (kn : Kn S H) (hd : Dp K (off S H) v (sq b (ns.map fun n : Nat => PyData.int (n : Nat)))) (few : ns.length ≤ 1000)
    (q : ∀ (n : Nat) H', Same H H' → (n = ns.length ↔ ns.Nodup) → Q (.int (n : Nat)) H') : rSetSq K w [v] H fun x H2 => rLenSet w [x] H2 Q := by
  obtain ⟨r, xs, rfl, hs, ha⟩ := items_at hd (items_sq b _)
  have e0 : (ns.map fun n : Nat => PyData.int (n : Nat)) = (ns.map fun n : Nat => ((n : Nat) : Int)).map PyData.int := by rw [List.map_map]; rfl
  rw [e0] at ha
  have ex := dpa_ints ha
  subst ex
  have inj : (ns.map fun n : Nat => ((n : Nat) : Int)).Nodup ↔ ns.Nodup := by
    unfold List.Nodup
    rw [List.pairwise_map]
    exact ⟨fun h => h.imp fun a e => a (by rw [e]), fun h => h.imp fun a e => a (by omega)⟩
  refine ⟨r, _, rfl, hs.imp (fun z => off_sub.seq z) (fun z => same_t off_sub z), by rw [List.length_map]; exact few, fun p n hp hn => ⟨p, _, n, rfl, upd_same, by rw [List.length_map] at hn; omega, fun ms nd hm hl => ?_⟩⟩
  refine q n _ (same_new hp) ?_
  have := nodup_len (ks := ns.map fun n : Nat => ((n : Nat) : Int)) nd fun k => by rw [hm, decide_eq_true_iff]
  rw [List.length_map, inj, hl] at this
  exact this
end Kh

set_option maxRecDepth 100000
set_option maxHeartbeats 4000000
namespace K31
open PySem PySem.Spec PyProof.Rows L2 Kh
/-- things -/
inductive Th where
  | dat (d : PyData)
  | dic (ks : List Nat)
def ThAt (K : PySem.W.Frag) (H : Hp) (v : V) : Th → Prop
  | .dat d => Dp K H v d
  | .dic ks => ∃ a, v = .ref a ∧ H a = some (.dK (dicO ks))
theorem ThAt.same {K : PySem.W.Frag} {H H' : Hp} {v : V} (e : Same H H') : ∀ {th : Th}, ThAt K H v th → ThAt K H' v th
  | .dat d, h => dp_same e _ _ h
  | .dic ks, ⟨a, e1, e2⟩ => ⟨a, e1, e _ _ e2⟩
def isListT : Th → Bool
  | .dat d => isListD d
  | .dic _ => false
def itemsT : Th → Option (List PyData)
  | .dat d => items d
  | .dic _ => none
/-- a list of numbers below n -/
def natsN (n : Nat) (th : Th) : Option (List Nat) := match itemsT th with
  | some ds => if ds.all (belowD (n : Nat)) = true then some (ds.map toN) else none
  | none => none
theorem natsN_none {n : Nat} {th : Th} (h : itemsT th = none) : natsN n th = none := by unfold natsN; rw [h]
theorem natsN_no {n : Nat} {th : Th} {ds : List PyData} (h : itemsT th = some ds) (e : ds.all (belowD (n : Nat)) = false) : natsN n th = none := by
  unfold natsN; rw [h]; simp only; rw [if_neg (by rw [e]; exact Bool.false_ne_true)]
theorem natsN_yes {n : Nat} {th : Th} {ds : List PyData} (h : itemsT th = some ds) (e : ds.all (belowD (n : Nat)) = true) : natsN n th = some (ds.map toN) := by
  unfold natsN; rw [h]; simp only; rw [if_pos e]
theorem below_natN {n : Nat} {d : PyData} (h : belowD (n : Nat) d = true) : d = nD (toN d) ∧ toN d < n := by
  cases d with
  | int i =>
    simp [belowD] at h
    refine ⟨?_, ?_⟩
    · show PyData.int i = .int ((i.toNat : Nat) : Int)
      congr 1; omega
    · show i.toNat < n
      omega
  | _ => simp [belowD] at h
theorem below_nats {n : Nat} : ∀ {ds : List PyData}, ds.all (belowD (n : Nat)) = true → ds = (ds.map toN).map nD ∧ ∀ m ∈ ds.map toN, m < n
  | [], _ => ⟨rfl, fun m h => (nomatch h)⟩
  | d :: ds, h => by
    rw [List.all_cons, Bool.and_eq_true] at h
    obtain ⟨h1, h2⟩ := below_nats h.2
    obtain ⟨h3, h4⟩ := below_natN h.1
    refine ⟨?_, fun m hm => ?_⟩
    · rw [List.map_cons, List.map_cons, ← h1, ← h3]
    · rcases List.mem_cons.mp hm with rfl | hm
      · exact h4
      · exact h2 m hm
theorem items_list {d : PyData} : (items d).isSome = isListD d := by cases d <;> rfl
theorem items_sq' {d : PyData} {ds : List PyData} (h : items d = some ds) : ∃ b, d = sq b ds := by
  cases d with
  | list es => cases h; exact ⟨false, rfl⟩
  | tuple es => cases h; exact ⟨true, rfl⟩
  | _ => cases h
def upcT (R : List (List Nat)) (th : Th) : Bool := match natsN R.length th with
  | some ns => decide ns.Nodup && (ns.map (isP R)).all id
  | none => false
theorem upcT_none {R : List (List Nat)} {th : Th} (h : natsN R.length th = none) : upcT R th = false := by unfold upcT; rw [h]
theorem upcT_some {R : List (List Nat)} {ns : List Nat} {th : Th} (h : natsN R.length th = some ns) : upcT R th = (decide ns.Nodup && (ns.map (isP R)).all id) := by unfold upcT; rw [h]
theorem sortable_nD (ms : List Nat) : PySem.W.Sortable (ms.map nD) := PySem.W.Sortable.others fun b => ⟨fun h => (nomatch h), fun xs h => (nomatch h)⟩
section
variable {P : Program} {w : World} {K : PySem.W.Frag} {mg : Str → Option Value} {base : Heap} {a : Nat → Addr} {fd : Nat → FuncData} {C : Addr} {tk : Nat → Tok}
theorem tyx_dic {H : Hp} {p : Addr} {ks : List Nat} (h : H p = some (.dK (dicO ks))) : TyX K H (.ref p) (.type "dict") := .base (.dK h)
theorem isi2_dic {H : Hp} {p r : Addr} {ks : List Nat} {n m : String} {b c : Bool} {Q : VK} (h : H r = some (.dK (dicO ks))) (hp : H p = some (.tup [.ty n, .ty m])) (hk : kitB "dict" n = some b) (hc : kitB "dict" m = some c) (q : Q (.bl (b || c)) H) : rIsiT K [.ref r, .ref p] H Q := by
  refine ⟨.ref r, p, [.ty n, .ty m], .type "dict", [.type n, .type m], b || c, rfl, hp, .cons (.ty n) (.cons (.ty m) .nil), tyx_dic h, ?_, q⟩
  refine kitAny_cons (kit_ty hk) (fun hb => ?_) (fun hb => by rw [hb]; rfl)
  refine kitAny_cons (kit_ty hc) (fun hd => ?_) (fun hd => by rw [hd]; cases b <;> rfl)
  rw [hb, hd]; exact kitAny_nil
theorem isiT_th {S : Addr → Prop} {H : Hp} {v : V} {th : Th} {p : Addr} {Q : VK} (h : ThAt K (off S H) v th) (hp : H p = some (.tup [.ty "list", .ty "tuple"])) (q : Q (.bl (isListT th)) H) : rIsiT K [v, .ref p] H Q := by
  cases th with
  | dat d => exact isi2_d off_sub h hp (kit_list d) (kit_tup d) q
  | dic ks =>
    obtain ⟨r, rfl, hr⟩ := h
    exact isi2_dic (off_sub _ _ hr) hp (by decide +kernel : kitB "dict" "list" = some false) (by decide +kernel : kitB "dict" "tuple" = some false) q
def spIsListT (K : PySem.W.Frag) : Sp := fun vs H Q _ => ∃ (S : Addr → Prop) (th : Th) (v : V), vs = [v] ∧ Kn S H ∧ ThAt K (off S H) v th ∧ ∀ H', Same H H' → Q (.bl (isListT th)) H'
theorem ok_is_listT (T : Txt K mg a fd C tk) : FnOk P w K mg base CX0 1 (a 2) (fd 2) ["value"] (spIsListT K) := by
  refine T.F_is_list.ok sc_is_list (fun vs H Q E h => by obtain ⟨_, _, _, rfl, _⟩ := h; rfl) (fun cdv A outer s H vs Q E hr h => ?_)
  obtain ⟨S, th, v, rfl, kn, hd, q⟩ := h
  refine ⟨_, (pss_one (ps_ret (pe_callB (k_isiT (K := K)) (by rfl) T.z_isinstance (by decide +kernel) (pa_cons (pv 0) (pa_cons (pe_tup (pa_cons (pe_bltn (v := .ty "list") (by rfl) T.z_list (by decide +kernel) rfl) (pa_cons (pe_bltn (v := .ty "tuple") (by rfl) T.z_tuple (by decide +kernel) rfl) pa_nil))) pa_nil))))), ?_⟩
  refine s_ret (t_cb (a_cons (t_var rfl (a_cons (t_tup (a_cons (t_c (a_cons (t_c (a_nil ⟨le2, fun p hp => a_nil ?_⟩))))))))))
  exact isiT_th (hd.same (off_same (same_new hp))) upd_same (q _ (same_new hp))
end
end K31

set_option maxRecDepth 100000
set_option maxHeartbeats 4000000
namespace K31
open PySem PySem.Spec PyProof.Rows L2 Kh
theorem t_krr {n : Nat} {sp : Sp} {tk : TA} {σ : L2.St} {H : Hp} {Q : VK} (h : tk σ H fun zs H2 => zs.length = n ∧ sp zs.reverse H2 Q E0) : tCallKR n sp tk σ H Q := h
theorem t_k0 {n : Nat} {sp : Sp} {tk : TA} {σ : L2.St} {H : Hp} {Q : VK} (h : tk σ H fun zs H2 => zs.length = n ∧ sp zs H2 Q E0) : tCallK0 n sp tk σ H Q := h
theorem t_revL {K : PySem.W.Frag} {te : TE} {σ : L2.St} {H : Hp} {Q : VK} (h : te σ H fun x H1 => ∃ a xs, x = .ref a ∧ SqL K H1 a xs ∧ ∀ p, H1 p = none → Q (.ref p) (upd H1 p (.lst xs.reverse))) : tRevL K te σ H Q := h
abbrev kwR (K : PySem.W.Frag) (fd : FuncData) (p1 p2 : Str) : Prop := KBn K fd [p1, p2] 0 [p2, p1] (fun us ws => us ++ ws.reverse) (fun vs zs => vs ++ zs.reverse)
abbrev kwR3 (K : PySem.W.Frag) (fd : FuncData) (p1 p2 p3 : Str) : Prop := KBn K fd [p1, p2, p3] 0 [p3, p2, p1] (fun us ws => us ++ ws.reverse) (fun vs zs => vs ++ zs.reverse)
abbrev kw1 (K : PySem.W.Frag) (fd : FuncData) (p1 : Str) : Prop := KBn K fd [p1] 0 [p1] (fun us ws => us ++ ws) (fun vs zs => vs ++ zs)
theorem eqvAll_rows : ∀ A B : List (List Nat), PyData.eqvAll (A.map nL) (B.map nL) = decide (A = B)
  | [], [] => by rw [List.map_nil, PyData.eqvAll]; rfl
  | [], b :: bs => by rw [List.map_nil, List.map_cons, PyData.eqvAll]; rfl
  | a :: as, [] => by rw [List.map_nil, List.map_cons, PyData.eqvAll]; rfl
  | a :: as, b :: bs => by
    rw [List.map_cons, List.map_cons, PyData.eqvAll, eqvAll_rows as bs, eqv_nums]
    by_cases h : a = b
    · subst h; simp
    · simp [h]
theorem eqv_rows (A B : List (List Nat)) : PyData.eqv (nLL A) (nLL B) = decide (A = B) := by
  unfold nLL; rw [PyData.eqv]; exact eqvAll_rows A B
theorem ne_rows {K : PySem.W.Frag} {S : Addr → Prop} {H : Hp} {u v : V} {A B : List (List Nat)} {Q : VK} (h1 : Dp K (off S H) u (nLL A)) (h2 : Dp K (off S H) v (nLL B)) (q : Q (.bl (!decide (A = B))) H) : rNeD K u v H Q := by
  refine ⟨_, _, dp_same off_sub _ _ h1, dp_same off_sub _ _ h2, shaped_nLL A, shaped_nLL B, ?_⟩
  rw [eqv_rows]; exact q
theorem eq_nums {K : PySem.W.Frag} {S : Addr → Prop} {H : Hp} {u v : V} {l m : List Nat} {Q : VK} (h1 : Dp K (off S H) u (nL l)) (h2 : Dp K (off S H) v (nL m)) (q : Q (.bl (decide (l = m))) H) : rEqD K u v H Q := by
  refine ⟨_, _, dp_same off_sub _ _ h1, dp_same off_sub _ _ h2, shd_shaped (shd_nL _), shd_shaped (shd_nL _), ?_⟩
  rw [eqv_nums]; exact q
/-- a list told anew: it may be changed -/
theorem new_list {H0 H : Hp} {u : V} {ds : List PyData} (h : Np (off (old H0) H) u (.list ds)) : ∃ a xs, u = .ref a ∧ H a = some (.lst xs) ∧ H0 a = none ∧ xs.length = ds.length ∧ ∀ (i : Nat) x d, xs[i]? = some x → ds[i]? = some d → Np (off (old H0) H) x d := by
  obtain ⟨a, xs, rfl, ha, l, t⟩ := np_list h
  obtain ⟨n, ha'⟩ := off_some ha
  exact ⟨a, xs, rfl, ha', Classical.byContradiction fun z => n z, l, t⟩
section
variable {P : Program} {w : World} {K : PySem.W.Frag} {mg : Str → Option Value} {base : Heap} {a : Nat → Addr} {fd : Nat → FuncData} {C : Addr} {tk : Nat → Tok}
theorem jn_same {R : List (List Nat)} (tb : Tb R) (me : Melts R) {l m : List Nat} (hl : l ≠ []) (hm : m ≠ []) (ll : ∀ n ∈ l, n < R.length) (same : ∀ n, n ∈ l ↔ n ∈ m) : jn R l = jn R m := by
  have lm : ∀ n ∈ m, n < R.length := fun n hn => ll n ((same n).mpr hn)
  have j1 := jn_lt tb hl ll
  have j2 := jn_lt tb hm lm
  exact anti me j1 j2 (jn_least tb me hl ll j2 fun x hx => jn_up tb me lm x ((same x).mp hx)) (jn_least tb me hm lm j1 fun x hx => jn_up tb me ll x ((same x).mpr hx))
end
end K31

set_option maxRecDepth 100000
set_option maxHeartbeats 4000000
namespace K31
open PySem PySem.Spec PyProof.Rows L2 Kh
theorem s_mid {A B : TS} {D : Ends} {σ : L2.St} {H : Hp} (Mid : L2.St → Hp → Prop) (key : ∀ σ' H', Mid σ' H' → B D σ' H') (h : (∀ σ' H', Mid σ' H' → B D σ' H') → tSeq A B D σ H) : tSeq A B D σ H := h key
theorem bools_eq (b : Bool) : PyData.eqv (.list [.bool b, .bool b]) (.list [.bool b, .bool b]) = true := by cases b <;> decide +kernel
theorem bools_sh (b : Bool) : SeqAt.shaped (.list [.bool b, .bool b]) = true := by cases b <;> decide +kernel
section
variable {K : PySem.W.Frag}
theorem pick_row {S : Addr → Prop} {p : Addr} {u : V} {H : Hp} {Q : VK} {E : XK} {L : List (List Nat)} (hS : S p) (pot : PotAt H p) (dL : Dp K (off S H) u (nLL L)) (h0 : L ≠ []) (few : L.length ≤ 200)
    (q : ∀ m ∈ L, ∀ y H', SameBut p H H' → PotAt H' p → Dp K (off S H') y (nL m) → Q y H') : spPick K [.ref p, u] H Q E := by
  obtain ⟨l, xs, rfl, hs, ha⟩ := list_at (ds := L.map nL) dL
  have lx := dpa_len ha
  rw [List.length_map] at lx
  have := List.length_pos_iff.mpr h0
  refine ⟨p, l, xs, rfl, pot, fun H' sb => (off_keep hS sb).seq hs, by omega, by omega, fun d x H' hx sb pt => ?_⟩
  obtain ⟨dd, dj, dx⟩ := dpa_at ha hx
  obtain ⟨m, hj, hm, rfl⟩ := at_map dj
  exact q m hm x H' sb pt (dp_same (off_bt hS sb) _ _ dx)
def EvTh (K : PySem.W.Frag) (S : Addr → Prop) (H0 : Hp) (σ : L2.St) (te : TE) (th : Th) : Prop := ∀ H1, Same H0 H1 → ∀ Q : VK, (∀ u H', Same H1 H' → ThAt K (off S H') u th → Q u H') → te σ H1 Q
def EvThA (K : PySem.W.Frag) (S : Addr → Prop) (H0 : Hp) (σ : L2.St) (ta : TA) (ths : List Th) : Prop := ∀ H1, Same H0 H1 → ∀ q : List V → Hp → Prop, (∀ tl : List (V × Th), ∀ H', Same H1 H' → tl.map Prod.snd = ths → (∀ z ∈ tl, ThAt K (off S H') z.1 z.2) → q (tl.map Prod.fst) H') → ta σ H1 q
section
variable {S : Addr → Prop} {H0 : Hp} {σ : L2.St}
theorem eth_dat {te : TE} {d : PyData} (h : EvD K S H0 σ te d) : EvTh K S H0 σ te (.dat d) := fun H1 s Q q => h H1 s Q fun u H' s' d' => q u H' s' d'
theorem eth_dic (kn : Kn S H0) : EvTh K S H0 σ tDNewK (.dic []) := fun H1 s Q q p hp => q _ _ (same_new hp) ⟨p, rfl, by rw [off_out ((kn.same s).new hp)]; exact upd_same⟩
theorem eth_nil : EvThA K S H0 σ tNil [] := fun H1 s q k => a_nil (k [] _ (Same.refl _) rfl fun z hz => nomatch hz)
theorem eth_cons {te : TE} {ta : TA} {th : Th} {ths : List Th} (h : EvTh K S H0 σ te th) (h2 : EvThA K S H0 σ ta ths) : EvThA K S H0 σ (tCons te ta) (th :: ths) := fun H1 s q k =>
  a_cons (h H1 s _ fun u H2 s2 d2 => h2 H2 (s.trans s2) _ fun tl H3 s3 e a3 => k ((u, th) :: tl) H3 (s2.trans s3) (by rw [List.map_cons, e]) fun z hz => by
    rcases List.mem_cons.mp hz with rfl | hz
    · exact d2.same (off_same s3)
    · exact a3 z hz)
theorem ev_row0 {k : Nat} {v : V} {L : List (List Nat)} {l : List Nat} (hk : σ[k]? = some (some v)) (d : Dp K (off S H0) v (nLL L)) (e : (L.map nL)[0]? = some (nL l)) : EvD K S H0 σ (tOp (rIx K) (tVar k) (tC (.int 0))) (nL l) := fun H1 s Q q =>
  t_op (t_var hk (t_c (ix_d (i := 0) off_sub (dp_same (off_same s) _ _ d) rfl e fun u du => q u H1 (Same.refl _) du)))
theorem ev_rev {te : TE} {l : List Nat} (kn : Kn S H0) (h : EvD K S H0 σ te (nL l)) : EvD K S H0 σ (tRevL K te) (nL l.reverse) := fun H1 s Q q =>
  t_revL (h H1 s _ fun u H2 s2 du => by
    obtain ⟨a, xs, rfl, hs, ha⟩ := list_at (ds := l.map nD) du
    have ex := dpa_nats ha
    subst ex
    refine ⟨a, _, rfl, off_sub.seq hs, fun p hp => q _ _ (s2.trans (same_new hp)) ?_⟩
    exact dp_newL (K := K) (ys := (ivs l).reverse) (ds := l.reverse.map nD) (kn.same (s.trans s2)) hp (by unfold ivs; rw [← List.map_reverse]; exact nats_dpa l.reverse))
theorem ev_take1 {te : TE} {l : List Nat} (kn : Kn S H0) (h : EvD K S H0 σ te (nL l)) (h1 : 1 ≤ l.length) : EvD K S H0 σ (tSl (rSlL K) te tNoPart (tPart (tC (.int 1)))) (nL (l.take 1)) := fun H1 s Q q =>
  t_sl (h H1 s _ fun u H2 s2 du => o_none (o_some (t_c ⟨_, rfl, sl_take (ms := l) (m := 1) (kn.same (s.trans s2)) du h1 fun z H3 s3 d3 => q z H3 (s2.trans s3) d3⟩)))
theorem ev_len {k : Nat} {v : V} {L : List (List Nat)} (hk : σ[k]? = some (some v)) (d : Dp K (off S H0) v (nLL L)) : EvD K S H0 σ (tCB (Kh.rLen K) (tCons (tVar k) tNil)) (nD L.length) := fun H1 s Q q =>
  t_cb1 (t_var hk (len_d off_sub (dp_same (off_same s) _ _ d) rfl (by rw [List.length_map]; exact q _ H1 (Same.refl _) (.int _))))
end
end
end K31

set_option maxRecDepth 100000
set_option maxHeartbeats 4000000
namespace K31
open PySem PySem.Spec PyProof.Rows L2 Kh
/-- [f(pot, ..) for j in range(n)], all True -/
theorem lc_potI {K : PySem.W.Frag} {S : Addr → Prop} {p : Addr} {H : Hp} {σ : L2.St} {ta : TA} {te : TE} {sl : Nat} {vs : List Nat} {Q : VK} (n : Nat) (hS : S p) (kn : Kn S H) (pot : PotAt H p) (hn : n ≤ 1000)
    (hev : ∀ q : List V → Hp → Prop, q [.int (n : Nat)] H → ta σ H q) (hw : ∀ x, wipe ((wipe σ vs).set sl (some x)) vs = wipe σ vs)
    (body : ∀ j H1 S', j < n → SameBut p H H1 → PotAt H1 p → Kn S' H1 → S' p → Same (off S H) (off S' H1) → ∀ Q : VK, (∀ H', SameBut p H1 H' → PotAt H' p → Q (.bl true) H') → te ((wipe σ vs).set sl (some (.int (j : Nat)))) H1 Q)
    (done : ∀ D H1, SameBut p H H1 → PotAt H1 p → Dp K (off S H1) (.ref D) (.list ((List.replicate n true).map PyData.bool)) → Q (.ref D) H1) :
    tLc (iRng1 ta) (gName sl) tYes te vs σ H Q := by
  refine hev _ ⟨(n : Nat), rfl, by omega, by omega, ?_⟩
  refine lc_pot0 PyData.bool (K := K) (n := n) (G := fun _ => True) (Y := YFn fun i => .int (0 + i)) (fun i x S' H' => x = .int (i : Nat) ∧ Same (off S H) (off S' H')) (fun j t => t = true) hS kn pot walk_range (fun _ _ => trivial) hn hw (fun D i H2 x H3 hD hi sb y => ⟨y.1, by rw [y.2]; show V.int (0 + _) = _; rw [Int.zero_add], off_plusB hS hD sb⟩) (fun j x H2 S' hj sb pot2 kn2 hS' xp Q q => ?_) (fun D H2 ys ts sb pot2 hl good hd hD => ?_)
  · obtain ⟨rfl, so⟩ := xp
    exact body j H2 S' hj sb pot2 kn2 hS' so Q fun H' s' pt => q _ H' true s' pt rfl (.bl _)
  · refine done D H2 sb pot2 ?_
    have e : ts = List.replicate n true := List.eq_replicate_iff.mpr ⟨hl, fun t ht => by
      obtain ⟨j, hj⟩ := List.mem_iff_getElem?.mp ht
      exact good j t hj⟩
    rw [← e]; exact hD
theorem ev_lenT {K : PySem.W.Frag} {S : Addr → Prop} {H0 : Hp} {σ : L2.St} {te : TE} {L : List (List Nat)} (h : EvD K S H0 σ te (nLL L)) : EvD K S H0 σ (tCB (Kh.rLen K) (tCons te tNil)) (nD L.length) := fun H1 s Q q =>
  t_cb1 (h H1 s _ fun u H2 s2 d2 => len_d off_sub d2 rfl (by rw [List.length_map]; exact q _ H2 s2 (.int _)))
section
variable {P : Program} {w : World} {K : PySem.W.Frag} {mg : Str → Option Value} {base : Heap} {a : Nat → Addr} {fd : Nat → FuncData} {C : Addr} {tk : Nat → Tok}
end
end K31

set_option maxRecDepth 100000
set_option maxHeartbeats 1000000
/-! min of a list of data: the item itself (after the kit's own rule for data, whose item's place is told besides) -/
namespace PySem.W
open PySem PySem.SeqAt PyProof.Rows
variable {prog : Program} {w : World} {A : Around} {E : Value → Shared → Prop} {s : Shared}
theorem min_list_at {l : Addr} {vs : Array Value} {x : PyData} {xs : List PyData} {as : List Addr} {Q : Value → Shared → Prop} (hh : A.handled = none) (hl : s.heap.IsList l vs) (hr : ReadsAll s.heap vs.toList (x :: xs) as) (ha : AlikeAll (x :: xs)) (hu : A.units + 1 + PyData.depthAll (x :: xs) < cLine)
    (h : ∀ (i : Nat) v h' tk, vs[i]? = some v → (x :: xs).getD i .none = minD x xs → (∀ b o, s.heap.get? b = some o → h'.get? b = some o) → Q v { s with heap := h', toks := tk }) :
    wpAny (model prog w) A (call (.builtin "min") [.ref l]) Q E s := by
  have hn : vs.size = xs.length + 1 := readsAll_len hr
  refine call_min_walkH (iter_listW (A := A.in1) hh hl fun s₂ e W st hfp hw hk => ?_)
  refine ⟨_, _, _, _, _, _, _, s.heap, _, rfl, W, st, hfp, by omega, hw, hk, cmpIn_lt (A := A.in1) hr ha (by show A.units + 1 + _ < _; exact hu), fun v s' hP m => ?_⟩
  obtain ⟨h', tk, rfl, hk'⟩ := moved_old e rfl m
  have e1 : vs.size - 1 = xs.length := by omega
  have e2 := (argBest_fold dataLt PyData.none x xs xs.length (Nat.le_refl _)).2
  rw [List.take_length] at e2
  rw [e1] at hP
  exact h _ v h' tk hP (by unfold minD; exact e2) hk'
end PySem.W
namespace Kh
open PySem PySem.Spec PyProof.Rows L2
def rMinM (K : PySem.W.Frag) : List V → Hp → VK → Prop := fun vs H Q => ∃ (a : Addr) (xs : List V) (d : PyData) (ds : List PyData), vs = [V.ref a] ∧ SqL K H a xs ∧ DpAll K H xs (d :: ds) ∧ PySem.W.AlikeAll (d :: ds) ∧ PyData.depthAll (d :: ds) ≤ 60 ∧
  ∀ (i : Nat) x, xs[i]? = some x → (d :: ds).getD i .none = PySem.W.minD d ds → Q x H
theorem cr_minM {X : Cx} (hc : X.calm = true) (hu : X.A.units + 64 < cLine) : CallR X (.builtin "min") (rMinM X.K) := by
  intro pins s σ H vs us Q I r h
  obtain ⟨a, xs, d, ds, rfl, hs, hd, hal, hdp, q⟩ := h
  obtain ⟨its, rv, hl, hz⟩ := I.list hs
  rw [Vals.ref1 r]
  obtain ⟨as, hr⟩ := Dp.readsAll I (d :: ds) xs its hd rv
  refine PySem.W.min_list_at (vs := its.toArray) (I.ok.hd hc) hl.isList hr hal (by omega) fun i v h' tk hv he hk => ?_
  have hv' : its[i]? = some v := by simpa using hv
  cases ex : xs[i]? with
  | none =>
    have := Vals.none_of rv ex
    rw [hv'] at this; cases this
  | some x =>
    obtain ⟨u, hu1, ru⟩ := rv.get ex
    rw [hv'] at hu1
    cases hu1
    exact ⟨x, H, I.kept hk, ru, q i x ex he⟩
theorem k_minM {X : Cx} {K : PySem.W.Frag} (hc : X.calm = true) (hu : X.A.units + 64 < cLine) (h : X.K = K := by rfl) : CallR X (.builtin "min") (rMinM K) := by subst h; exact cr_minM hc hu
theorem k_minI {X : Cx} {K : PySem.W.Frag} (hc : X.calm = true) (h : X.K = K := by rfl) : CallR X (.builtin "min") (rMin K) := by subst h; exact cr_min hc
end Kh

set_option maxRecDepth 100000
set_option maxHeartbeats 4000000
namespace K31
open PySem PySem.Spec PyProof.Rows L2 Kh
/-- the values that a piece is not within -/
def wo (R : List (List Nat)) (p : Nat) : List Nat := (List.range R.length).filter fun v => !decide (at_ R p v = v)
def pri (R : List (List Nat)) (p : Nat) : Bool := !(((wo R p).flatMap fun one => (wo R p).map fun other => decide (at_ R p (at_ R one other) = at_ R one other)).any id)
/-- the pieces of u that are not within v -/
def fresh (R : List (List Nat)) (v u : Nat) : List Nat := (pin R u).filter fun p => !decide (at_ R p v = v)
def mis (R : List (List Nat)) (v u : Nat) : List Nat := (fresh R v u).filter fun p => !(((less (fresh R v u) p).map fun o => decide (at_ R p o = o)).any id)
def sd (R : List (List Nat)) (v u : Nat) (l : List Nat) : Bool := decide (jn R (v :: l) = at_ R v u)
theorem wo_lt {R : List (List Nat)} {p n : Nat} (h : n ∈ wo R p) : n < R.length := List.mem_range.mp (List.mem_filter.mp h).1
theorem wo_few (R : List (List Nat)) (p : Nat) : (wo R p).length ≤ R.length := by
  have := List.length_filter_le (fun v => !decide (at_ R p v = v)) (List.range R.length)
  rw [List.length_range] at this
  exact this
theorem fresh_lt {R : List (List Nat)} {v u n : Nat} (h : n ∈ fresh R v u) : n < R.length := pin_lt n (List.mem_filter.mp h).1
theorem fresh_few {R : List (List Nat)} (tb : Tb R) (v u : Nat) : (fresh R v u).length ≤ 7 := Nat.le_trans (List.length_filter_le _ _) (pin_few tb u)
theorem mis_lt {R : List (List Nat)} {v u n : Nat} (h : n ∈ mis R v u) : n < R.length := fresh_lt (List.mem_filter.mp h).1
theorem mis_few {R : List (List Nat)} (tb : Tb R) (v u : Nat) : (mis R v u).length ≤ 7 := Nat.le_trans (List.length_filter_le _ _) (fresh_few tb v u)
section
variable {K : PySem.W.Frag} {S : Addr → Prop} {H0 : Hp} {σ : L2.St} {C : Addr}
/-- [e for x in ms if p x], e a truth value -/
theorem ev_fbools {t te : TE} {tt : TT} {sl : Nat} {vs : List Nat} (b : Bool) (ms : List Nat) (p g : Nat → Bool) (kn : Kn S H0) (h : EvD K S H0 σ t (sq b (ms.map nD))) (few : ms.length ≤ 1000) (hw : ∀ x, wipe ((wipe σ vs).set sl (some x)) vs = wipe σ vs)
    (test : ∀ m ∈ ms, ∀ H1 S', Kn S' H1 → Same (off S H0) (off S' H1) → EvT H1 ((wipe σ vs).set sl (some (.int (m : Nat)))) tt (p m))
    (body : ∀ m ∈ ms, ∀ H1 S', Kn S' H1 → Same (off S H0) (off S' H1) → EvD K S' H1 ((wipe σ vs).set sl (some (.int (m : Nat)))) te (.bool (g m))) :
    EvD K S H0 σ (tLc (fun σ H R => iList K t σ H R ∨ iTup K t σ H R) (gName sl) tt te vs) (.list (((ms.filter p).map g).map PyData.bool)) := fun H1 s Q q =>
  lcF b ms p nD (fun m => .bool (g m)) (kn.same s) (fun Q q => h H1 s Q q) (by omega) hw (fun m hm x H2 S2 s2 kn2 dx hS ho Q2 q2 => by cases dx; exact test m hm H2 S2 kn2 ((off_same s).trans ho) H2 (Same.refl _) Q2 q2)
    (fun m hm _ x H2 S2 s2 kn2 dx hS ho Q2 q2 => by cases dx; exact body m hm H2 S2 kn2 ((off_same s).trans ho) H2 (Same.refl _) Q2 q2) fun D H2 ys hD s2 hd2 h2 => q _ _ s2 (by rw [List.map_map]; exact h2)
theorem ev_meth {m : String} {α : Type} {enc : α → List PyData} {pre : List (List Nat) → α → Prop} {f : List (List Nat) → α → PyData} {ta : TA} {k : Nat} {x : Addr} {R : List (List Nat)} (y : α) (kn : Kn S H0) (ht : TabAt K C (off S H0) R x) (tb : Tb R) (hk : σ[k]? = some (some (.ref x))) (h : EvA K S H0 σ ta (enc y)) (hp : pre R y)
    (hm : ∀ H1 Q, Same H0 H1 → (ta σ H1 fun us H2 => Same H1 H2 ∧ spT K C enc pre f (.ref x :: us) H2 Q E0) → tMeth C m (spT K C enc pre f) [] E0 (tVar k) ta σ H1 Q) : EvD K S H0 σ (tMeth C m (spT K C enc pre f) [] E0 (tVar k) ta) (f R y) := fun H1 s Q q =>
  hm H1 Q s (h H1 s _ fun us H2 s2 d2 => ⟨s2, S, R, x, y, us, rfl, kn.same (s.trans s2), ht.same (off_same (s.trans s2)), tb, d2, hp, fun v H' s' d' => q v H' (s2.trans s') d'⟩)
theorem ev_at {R : List (List Nat)} {x : Addr} {k i j n m : Nat} (kn : Kn S H0) (ht : TabAt K C (off S H0) R x) (tb : Tb R) (hk : σ[k]? = some (some (.ref x))) (hi : σ[i]? = some (some (.int (n : Nat)))) (hj : σ[j]? = some (some (.int (m : Nat)))) (hn : n < R.length) (hm : m < R.length) :
    EvD K S H0 σ (tMeth C "at" (spAt K C) [] E0 (tVar k) (tCons (tVar i) (tCons (tVar j) tNil))) (nD (at_ R n m)) := fun H1 s Q q =>
  t_at (kn.same s) (ht.same (off_same s)) tb hk hi hj hn hm fun H' s' => q _ H' s' (.int _)
theorem ev_list {te : TE} {d : PyData} {ds : List PyData} (kn : Kn S H0) (h : EvD K S H0 σ te d) (hd : items d = some ds) : EvD K S H0 σ (tCB (rListOf K) (tCons te tNil)) (.list ds) := fun H1 s Q q =>
  t_cb1 (h H1 s _ fun u H2 s2 d2 => list_d (kn.same (s.trans s2)) d2 hd fun l xs hl _ dl => q _ _ (s2.trans (same_new hl)) dl)
end
section
variable {P : Program} {w : World} {K : PySem.W.Frag} {mg : Str → Option Value} {base : Heap} {a : Nat → Addr} {fd : Nat → FuncData} {C : Addr} {tk : Nat → Tok}
end
end K31

set_option maxRecDepth 100000
set_option maxHeartbeats 4000000
namespace K31
open PySem PySem.Spec PyProof.Rows L2 Kh
section
variable {K : PySem.W.Frag} {S : Addr → Prop} {H : Hp} {v : V} {Q : VK}
theorem depth_lists (L : List (List Nat)) : PyData.depthAll (L.map nL) ≤ 60 := by
  have h1 : ∀ l : List Nat, (nL l).depth = 1 := fun l => by
    have h : PyData.depthAll (l.map nD) = 0 := by rw [nD_map]; exact PySem.W.depth_ints _
    unfold nL
    simp only [PyData.depth, h]
  have : ∀ L : List (List Nat), PyData.depthAll (L.map nL) ≤ 1 := fun L => by
    induction L with
    | nil => rw [List.map_nil, PyData.depthAll]; omega
    | cons l L ih =>
      rw [List.map_cons, PyData.depthAll, h1]
      exact Nat.max_le.mpr ⟨Nat.le_refl _, ih⟩
  exact Nat.le_trans (this L) (by decide)
theorem np_dpall {S : Addr → Prop} {H : Hp} : ∀ {xs : List V} {ds : List PyData}, xs.length = ds.length → (∀ (i : Nat) x d, xs[i]? = some x → ds[i]? = some d → Np (off S H) x d) → DpAll K (off S H) xs ds := by
  intro xs
  induction xs with
  | nil => intro ds h _; cases ds with | nil => exact .nil | cons _ _ => simp at h
  | cons x xs ih =>
    intro ds h t
    cases ds with
    | nil => simp at h
    | cons d ds => exact .cons (t 0 x d rfl rfl).dp (ih (by simpa using h) fun i y e h1 h2 => t (i + 1) y e (by simpa using h1) (by simpa using h2))
theorem min_d {K : PySem.W.Frag} {H0 H : Hp} {v : V} {ns : List Nat} {Q : VK} (e : Same H0 H) (h : Dp K H0 v (.list (ns.map nD))) (hn : 0 < ns.length) (q : ∀ m, m ∈ ns → (∀ y, y ∈ ns → m ≤ y) → Q (.int (m : Nat)) H) : rMin K [v] H Q := by
  rw [nD_map] at h
  obtain ⟨a, xs, rfl, hs, ha⟩ := list_at h
  have ex := dpa_ints ha
  subst ex
  refine ⟨a, _, rfl, e.seq hs, by rw [List.length_map]; exact hn, fun m hm hl => ?_⟩
  obtain ⟨k, hk, rfl⟩ := List.mem_map.mp hm
  refine q k hk fun y hy => ?_
  have := hl _ (List.mem_map.mpr ⟨y, hy, rfl⟩)
  omega
end
section
variable {P : Program} {w : World} {K : PySem.W.Frag} {mg : Str → Option Value} {base : Heap} {a : Nat → Addr} {fd : Nat → FuncData} {C : Addr} {tk : Nat → Tok}
theorem kn_less {S1 S2 : Addr → Prop} {H : Hp} (kn : Kn S2 H) (h : ∀ a, S1 a → S2 a) : Kn S1 H := fun a z => kn a (h a z)
end
end K31

set_option maxRecDepth 100000
set_option maxHeartbeats 4000000
namespace K31
open PySem PySem.Spec PyProof.Rows L2 Kh
theorem ktup_of {d : PyData} (h : kTup d = true) : ∃ ds, d = .tuple ds := by cases d <;> first | exact ⟨_, rfl⟩ | cases h
section
variable {K : PySem.W.Frag} {S : Addr → Prop} {H0 : Hp} {σ : L2.St} {C : Addr}
theorem mem_ints43 (n : Nat) (ns : List Nat) : decide (((n : Nat) : Int) ∈ ns.map fun k : Nat => ((k : Nat) : Int)) = decide (n ∈ ns) := decide_eq_decide.mpr ⟨fun h => by
  obtain ⟨k, hk, e⟩ := List.mem_map.mp h
  have : k = n := by omega
  exact this ▸ hk, fun h => List.mem_map.mpr ⟨n, h, rfl⟩⟩
theorem items_nats (b : Bool) (ns : List Nat) : items (sq b (ns.map nD)) = some ((ns.map fun k : Nat => ((k : Nat) : Int)).map PyData.int) := by
  rw [items_sq]
  congr 1
  rw [List.map_map]; rfl
theorem ev_notin {t1 t2 : TE} {n : Nat} {b : Bool} {ns : List Nat} (h : EvD K S H0 σ t1 (nD n)) (h2 : EvD K S H0 σ t2 (sq b (ns.map nD))) : EvD K S H0 σ (tOp (rIn K true) t1 t2) (.bool (!decide (n ∈ ns))) := fun H1 s Q q =>
  t_op (h H1 s _ fun u H2 s2 d2 => h2 H2 (s.trans s2) _ fun v H3 s3 d3 => by
    cases d2
    refine in_d off_sub d3 (items_nats b ns) ?_
    rw [if_pos rfl, mem_ints43]
    exact q _ H3 (s2.trans s3) (.bl _))
theorem ev_in {t1 t2 : TE} {n : Nat} {b : Bool} {ns : List Nat} (h : EvD K S H0 σ t1 (nD n)) (h2 : EvD K S H0 σ t2 (sq b (ns.map nD))) : EvD K S H0 σ (tOp (rIn K false) t1 t2) (.bool (decide (n ∈ ns))) := fun H1 s Q q =>
  t_op (h H1 s _ fun u H2 s2 d2 => h2 H2 (s.trans s2) _ fun v H3 s3 d3 => by
    cases d2
    refine in_d off_sub d3 (items_nats b ns) ?_
    rw [if_neg Bool.false_ne_true, mem_ints43]
    exact q _ H3 (s2.trans s3) (.bl _))
theorem ev_isi {te : TE} {d : PyData} {n : String} {b : Bool} (h : EvD K S H0 σ te d) (hk : kitB (tyN d) n = some b) : EvD K S H0 σ (tCB (rIsi K) (tCons te (tCons (tC (.ty n)) tNil))) (.bool b) := fun H1 s Q q =>
  t_cb2 (h H1 s _ fun u H2 s2 d2 => t_c (isi_d off_sub d2 hk (q _ H2 s2 (.bl _))))
theorem g_tup3 {i j k : Nat} {v : V} {H1 : Hp} {S0 : Addr → Prop} {d1 d2 d3 : PyData} {Q : L2.St → Hp → Prop} (hd : Dp K (off S0 H1) v (.tuple [d1, d2, d3]))
    (q : ∀ x y z, Dp K (off S0 H1) x d1 → Dp K (off S0 H1) y d2 → Dp K (off S0 H1) z d3 → Q (((σ.set i (some x)).set j (some y)).set k (some z)) H1) : gTup K 3 (gCons (gName i) (gCons (gName j) (gCons (gName k) gNil))) v σ H1 Q := by
  obtain ⟨r, xs, rfl, hs, ha⟩ := tup_at hd
  obtain - | ⟨h1, - | ⟨h2, - | ⟨h3, ⟨⟩⟩⟩⟩ := ha
  rename_i x y z
  exact ⟨r, [x, y, z], rfl, same_t off_sub hs, rfl, x, [y, z], rfl, y, [z], rfl, z, [], rfl, rfl, q x y z h1 h2 h3⟩
end
section
variable {P : Program} {w : World} {K : PySem.W.Frag} {mg : Str → Option Value} {base : Heap} {a : Nat → Addr} {fd : Nat → FuncData} {C : Addr} {tk : Nat → Tok}
end
end K31

set_option maxRecDepth 100000
set_option maxHeartbeats 1000000
/-! x is True, x is False, of a whole number or a truth value -/
namespace Kh
open PySem PySem.Spec PyProof.Rows L2
def rIsX : R2 := fun x y H Q => ∃ b : Bool, y = .bl b ∧ ((∃ i, x = .int i) ∨ ∃ a, x = .bl a) ∧ Q (.bl (decide (x = .bl b))) H
theorem op_isX {X : Cx} : OpR X (compareOp .Is) rIsX := by
  intro pins s σ H x y v u Q I rx ry h
  obtain ⟨b, rfl, hx, q⟩ := h
  cases (show u = Value.bool b from ry)
  rcases hx with ⟨i, rfl⟩ | ⟨a, rfl⟩
  · obtain ⟨t, rfl⟩ := rx
    exact wpAny_is_other rfl (fun z => nomatch z) ⟨.bl false, H, I, rfl, by simpa using q⟩
  · cases (show v = Value.bool a from rx)
    by_cases e : a = b
    · subst e
      exact wpAny_is_self rfl ⟨.bl true, H, I, rfl, by simpa using q⟩
    · exact wpAny_is_other rfl (fun z => e (Value.bool.inj z)) ⟨.bl false, H, I, rfl, by simpa [e] using q⟩
end Kh
namespace Kh
open PySem PySem.Spec PyProof.Rows L2
theorem k_slT {X : Cx} {K : PySem.W.Frag} (h : X.K = K := by rfl) : SlR X (rSlT K) := by subst h; exact sl_tup
end Kh
namespace Kh
open PySem PySem.Spec PyProof.Rows L2
def rNotX : R2 := fun x y H Q => ∃ b : Bool, y = .bl b ∧ ((∃ i, x = .int i) ∨ ∃ a, x = .bl a) ∧ Q (.bl (!decide (x = .bl b))) H
theorem op_notX {X : Cx} : OpR X (compareOp .IsNot) rNotX := by
  intro pins s σ H x y v u Q I rx ry h
  obtain ⟨b, rfl, hx, q⟩ := h
  cases (show u = Value.bool b from ry)
  rcases hx with ⟨i, rfl⟩ | ⟨a, rfl⟩
  · obtain ⟨t, rfl⟩ := rx
    exact wpAny_isNot_other rfl (fun z => nomatch z) ⟨.bl true, H, I, rfl, by simpa using q⟩
  · cases (show v = Value.bool a from rx)
    by_cases e : a = b
    · subst e
      exact wpAny_isNot_self rfl ⟨.bl false, H, I, rfl, by simpa using q⟩
    · exact wpAny_isNot_other rfl (fun z => e (Value.bool.inj z)) ⟨.bl true, H, I, rfl, by simpa [e] using q⟩
end Kh

set_option maxRecDepth 100000
set_option maxHeartbeats 4000000
namespace K31
open PySem PySem.Spec PyProof.Rows L2 Kh
section
variable {K : PySem.W.Frag} {S : Addr → Prop} {H0 : Hp} {σ : L2.St}
theorem ev_ix {t1 t2 : TE} {d x : PyData} {ds : List PyData} {i : Nat} (h : EvD K S H0 σ t1 d) (hd : items d = some ds) (h2 : EvD K S H0 σ t2 (nD i)) (hi : ds[i]? = some x) : EvD K S H0 σ (tOp (rIx K) t1 t2) x := fun H1 s Q q =>
  t_op (h H1 s _ fun u H2 s2 d2 => h2 H2 (s.trans s2) _ fun v H3 s3 d3 => by
    cases d3
    exact ix_d (i := i) off_sub (dp_same (off_same s3) _ _ d2) hd hi fun z dz => q z H3 (s2.trans s3) dz)
/-- rows[a][b] -/
theorem ev_rcG {t1 t2 : TE} {k n m : Nat} {vR : V} {R : List (List Nat)} (tb : Tb R) (hk : σ[k]? = some (some vR)) (dR : Dp K (off S H0) vR (nLL R)) (h1 : EvD K S H0 σ t1 (nD n)) (h2 : EvD K S H0 σ t2 (nD m)) (hn : n < R.length) (hm : m < R.length) :
    EvD K S H0 σ (tOp (rIx K) (tOp (rIx K) (tVar k) t1) t2) (nD (at_ R n m)) := ev_ix (ev_ix (ev_var hk dR) rfl h1 (row_get tb nL hn)) rfl h2 (num_get tb hn hm)
theorem et_nen {t1 t2 : TE} {n m : Nat} (h : EvD K S H0 σ t1 (nD n)) (h2 : EvD K S H0 σ t2 (nD m)) : EvT H0 σ (tTest (tOp rNe t1 t2)) (!decide (n = m)) := fun H1 s Q q =>
  b_test (t_op (h H1 s _ fun u H2 s2 d2 => h2 H2 (s.trans s2) _ fun v H3 s3 d3 => by cases d2; cases d3; exact ⟨rfl, _, rfl, by rw [dec_int]; exact q H3 (s2.trans s3)⟩))
theorem ev_nen {t1 t2 : TE} {n m : Nat} (h : EvD K S H0 σ t1 (nD n)) (h2 : EvD K S H0 σ t2 (nD m)) : EvD K S H0 σ (tOp rNe t1 t2) (.bool (!decide (n = m))) := fun H1 s Q q =>
  t_op (h H1 s _ fun u H2 s2 d2 => h2 H2 (s.trans s2) _ fun v H3 s3 d3 => by cases d2; cases d3; exact ⟨rfl, by rw [dec_int]; exact q _ H3 (s2.trans s3) (.bl _)⟩)
theorem et_and {t1 t2 : TT} {b c : Bool} (h : EvT H0 σ t1 b) (h2 : EvT H0 σ t2 c) : EvT H0 σ (tAnd t1 t2) (b && c) := fun H1 s Q q =>
  b_and (h H1 s _ fun H2 s2 => by
    cases b with
    | false => exact ifF rfl (q H2 s2)
    | true => exact ifT rfl (h2 H2 (s.trans s2) _ fun H3 s3 => q H3 (s2.trans s3)))
theorem et_or {t1 t2 : TT} {b c : Bool} (h : EvT H0 σ t1 b) (h2 : EvT H0 σ t2 c) : EvT H0 σ (tOr t1 t2) (b || c) := fun H1 s Q q =>
  b_or (h H1 s _ fun H2 s2 => by
    cases b with
    | true => exact ifT rfl (q H2 s2)
    | false => exact ifF rfl (h2 H2 (s.trans s2) _ fun H3 s3 => q H3 (s2.trans s3)))
theorem ev_and {t1 t2 : TE} {b c : Bool} (h : EvD K S H0 σ t1 (.bool b)) (h2 : b = true → EvD K S H0 σ t2 (.bool c)) : EvD K S H0 σ (tAndV t1 t2) (.bool (b && c)) := fun H1 s Q q =>
  t_andV (h H1 s _ fun u H2 s2 d2 => by
    cases d2
    refine ⟨_, rfl, ?_⟩
    cases b with
    | false => exact ifF rfl (q _ H2 s2 (.bl _))
    | true => exact ifT rfl (h2 rfl H2 (s.trans s2) _ fun v H3 s3 d3 => q v H3 (s2.trans s3) d3))
theorem ev_or {t1 t2 : TE} {b c : Bool} (h : EvD K S H0 σ t1 (.bool b)) (h2 : EvD K S H0 σ t2 (.bool c)) : EvD K S H0 σ (tOrV t1 t2) (.bool (b || c)) := fun H1 s Q q =>
  t_orV (h H1 s _ fun u H2 s2 d2 => by
    cases d2
    refine ⟨_, rfl, ?_⟩
    cases b with
    | true => exact ifT rfl (q _ H2 s2 (.bl _))
    | false => exact ifF rfl (h2 H2 (s.trans s2) _ fun v H3 s3 d3 => q v H3 (s2.trans s3) d3))
/-- x is True, of a whole number or a truth value -/
def isBl (b : Bool) : PyData → Bool
  | .bool a => decide (a = b)
  | _ => false
theorem ev_isX {te : TE} {d : PyData} {b : Bool} (h : EvD K S H0 σ te d) (hk : kInt d = true) : EvD K S H0 σ (tOp rIsX te (tC (.bl b))) (.bool (isBl b d)) := fun H1 s Q q =>
  t_op (h H1 s _ fun u H2 s2 d2 => t_c (by
    cases d with
    | int i => cases d2; exact ⟨b, rfl, .inl ⟨_, rfl⟩, q _ H2 s2 (.bl _)⟩
    | bool a =>
      cases d2
      refine ⟨b, rfl, .inr ⟨_, rfl⟩, ?_⟩
      have e : decide (V.bl a = V.bl b) = decide (a = b) := decide_eq_decide.mpr ⟨fun z => V.bl.inj z, fun z => by rw [z]⟩
      rw [e]
      exact q _ H2 s2 (.bl _)
    | _ => cases hk))
end
theorem filt_filt {p q : Nat → Bool} (l : List Nat) : (l.filter q).filter p = l.filter fun a => q a && p a := by
  rw [List.filter_filter]
  congr 1
  funext a
  exact Bool.and_comm _ _
theorem any_filt {p q : Nat → Bool} : ∀ l : List Nat, ((l.filter p).map q).any id = (l.map fun a => p a && q a).any id
  | [] => rfl
  | a :: l => by
    rw [List.map_cons, List.any_cons, List.filter_cons]
    cases e : p a with
    | true => rw [if_pos rfl, List.map_cons, List.any_cons, any_filt l]; rfl
    | false => rw [if_neg Bool.false_ne_true, any_filt l]; rfl
section
variable {P : Program} {w : World} {K : PySem.W.Frag} {mg : Str → Option Value} {base : Heap} {a : Nat → Addr} {fd : Nat → FuncData} {C : Addr} {tk : Nat → Tok}
end
end K31

set_option maxRecDepth 100000
set_option maxHeartbeats 4000000
namespace K31
open PySem PySem.Spec PyProof.Rows L2 Kh
/-- the first two of a tuple of three -/
theorem sl_two {K : PySem.W.Frag} {S : Addr → Prop} {H : Hp} {x : V} {a b c : PyData} {Q : VK} (kn : Kn S H) (hx : Dp K (off S H) x (.tuple [a, b, c])) (q : ∀ u H', Same H H' → Dp K (off S H') u (.tuple [a, b]) → Q u H') : rSlT K x none (some 2) H Q := by
  obtain ⟨r, xs, rfl, hs, ha⟩ := tup_at hx
  obtain - | ⟨h1, - | ⟨h2, - | ⟨h3, ⟨⟩⟩⟩⟩ := ha
  rename_i y1 y2 y3
  refine ⟨r, [y1, y2, y3], rfl, same_t off_sub hs, fun z => ?_, fun p hp => ?_⟩
  · exact absurd z.2 (show ¬ HT.sIx 3 3 (some 2) = 3 by decide)
  · exact q _ _ (same_new hp) (dp_newT kn hp (.cons h1 (.cons h2 .nil)))
section
variable {P : Program} {w : World} {K : PySem.W.Frag} {mg : Str → Option Value} {base : Heap} {a : Nat → Addr} {fd : Nat → FuncData} {C : Addr} {tk : Nat → Tok}
theorem t_chain {r r' : R2} {ta tb tc : TE} {σ : L2.St} {H : Hp} {Q : VK} (h : ta σ H fun x H1 => tb σ H1 fun y H2 => r x y H2 fun z H3 => ∃ k, z = .bl k ∧ (if k = true then tc σ H3 fun w' H4 => r' y w' H4 Q else Q (.bl false) H3)) : tChain r r' ta tb tc σ H Q := h
def trD (n : Nat) : PyData := if n < 2 then .bool (decide (n = 1)) else nD n
end
end K31

set_option maxRecDepth 100000
set_option maxHeartbeats 4000000
namespace K31
open PySem PySem.Spec PyProof.Rows L2 Kh
abbrev kwR4 (K : PySem.W.Frag) (fd : FuncData) (p1 p2 p3 p4 : Str) : Prop := KBn K fd [p1, p2, p3, p4] 0 [p4, p3, p2, p1] (fun us ws => us ++ ws.reverse) (fun vs zs => vs ++ zs.reverse)
/-- things with their sorts, none too long -/
def AllT (K : PySem.W.Frag) (S : Addr → Prop) (H : Hp) (tl : List (V × Th)) : Prop := ∀ z ∈ tl, ThAt K (off S H) z.1 z.2 ∧ ∀ ds, itemsT z.2 = some ds → ds.length ≤ 900
section
variable {K : PySem.W.Frag}
theorem AllT.nil {S : Addr → Prop} {H : Hp} : AllT K S H [] := fun z h => nomatch h
theorem AllT.mv {S S' : Addr → Prop} {H H' : Hp} {tl : List (V × Th)} (h : AllT K S H tl) (e : Same (off S H) (off S' H')) : AllT K S' H' tl := fun z hz => ⟨(h z hz).1.same e, (h z hz).2⟩
theorem AllT.app {S : Addr → Prop} {H : Hp} {t1 t2 : List (V × Th)} (h1 : AllT K S H t1) (h2 : AllT K S H t2) : AllT K S H (t1 ++ t2) := fun z hz => (List.mem_append.mp hz).elim (h1 z) (h2 z)
theorem AllT.one {S : Addr → Prop} {H : Hp} {v : V} {th : Th} (h : ThAt K (off S H) v th) (l : ∀ ds, itemsT th = some ds → ds.length ≤ 900) : AllT K S H [(v, th)] := fun z hz => by
  rw [List.mem_singleton] at hz
  subst hz
  exact ⟨h, l⟩
theorem allT_of {S : Addr → Prop} {H : Hp} {tl : List (V × Th)} {ths : List Th} (e : tl.map Prod.snd = ths) (a : ∀ z ∈ tl, ThAt K (off S H) z.1 z.2) (l : ∀ th ∈ ths, ∀ ds, itemsT th = some ds → ds.length ≤ 900) : AllT K S H tl := fun z hz =>
  ⟨a z hz, l z.2 (by rw [← e]; exact List.mem_map_of_mem hz)⟩
/-- some elements told anew, then the rest -/
def EvThL (K : PySem.W.Frag) (S : Addr → Prop) (H0 : Hp) (σ : L2.St) (f : TA → TA) (ths : List Th) : Prop := ∀ H1, Same H0 H1 → ∀ (ta : TA) (q : List V → Hp → Prop), (∀ tl : List (V × Th), ∀ H', Same H1 H' → tl.map Prod.snd = ths → (∀ z ∈ tl, ThAt K (off S H') z.1 z.2) → ta σ H' fun us H2 => q (tl.map Prod.fst ++ us) H2) → f ta σ H1 q
theorem el_nil {S : Addr → Prop} {H0 : Hp} {σ : L2.St} : EvThL K S H0 σ (fun ta => ta) [] := fun H1 s ta q k => k [] H1 (Same.refl _) rfl fun z hz => nomatch hz
theorem el_cons {S : Addr → Prop} {H0 : Hp} {σ : L2.St} {te : TE} {f : TA → TA} {th : Th} {ths : List Th} (h : EvTh K S H0 σ te th) (h2 : EvThL K S H0 σ f ths) : EvThL K S H0 σ (fun ta => tCons te (f ta)) (th :: ths) := fun H1 s ta q k =>
  a_cons (h H1 s _ fun u H2 s2 d2 => h2 H2 (s.trans s2) ta _ fun tl H3 s3 e a3 => k ((u, th) :: tl) H3 (s2.trans s3) (by rw [List.map_cons, e]) fun z hz => by
    rcases List.mem_cons.mp hz with rfl | hz
    · exact d2.same (off_same s3)
    · exact a3 z hz)
def tVal (u : V) : TE := fun _ H Q => Q u H
/-- a comprehension over a list that is known -/
theorem at_pack {α : Type} {S : Addr → Prop} {σ : L2.St} {H1 : Hp} {u : V} {te : TE} {sl : Nat} {vs : List Nat} {Q : VK} (ms : List α) (f g : α → PyData) (kn : Kn S H1) (du : Dp K (off S H1) u (.list (ms.map f))) (hn : ms.length ≤ 100000) (hw : ∀ x, wipe ((wipe σ vs).set sl (some x)) vs = wipe σ vs)
    (body : ∀ m ∈ ms, ∀ x H2 S', Same H1 H2 → Kn S' H2 → Dp K (off S' H2) x (f m) → (∀ a, S a → S' a) → Same (off S H1) (off S' H2) → ∀ Q : VK, (∀ y H', Same H2 H' → Dp K (off S' H') y (g m) → Q y H') → te ((wipe σ vs).set sl (some x)) H2 Q)
    (done : ∀ D H2, H1 D = none → Same H1 H2 → Dp K (off S H2) (.ref D) (.list (ms.map g)) → Q (.ref D) H2) :
    iList K (tVal u) σ H1 fun J H0 => tLc (fun σ H R => R J H) (gName sl) tYes te vs σ H0 Q := by
  obtain ⟨a, xs, rfl, hs, ha⟩ := list_at du
  refine ⟨a, rfl, ⟨xs, off_sub.seq hs⟩, ?_⟩
  refine lc_dat (K := K) (S := S) (ds := ms.map f) (pick ms .none g) (walk_list.mono (fun H' z => z.seq hs) fun _ _ _ _ _ _ y => y) ha kn (by rw [List.length_map]; exact hn) hw (fun j x d H2 S' dj s2 kn2 dx hS ho Q q => ?_) fun D H2 ys hD s2 hd h2 => done D H2 hD s2 ?_
  · obtain ⟨m, hj, hm, rfl⟩ := at_map dj
    exact body m hm x H2 S' s2 kn2 dx hS ho Q fun y H' s' d' => q y H' s' (by rw [pick_eq hj]; exact d')
  · rw [List.length_map] at h2
    rw [range_map (g := g) fun i x e => pick_eq e] at h2
    exact h2
/-- a comprehension, what it walks evaluated first -/
theorem lc_pre {σ : L2.St} {H : Hp} {t te : TE} {tt : TT} {g : TG} {vs : List Nat} {Q : VK} (h : t σ H fun u H1 => iList K (tVal u) σ H1 fun J H0 => tLc (fun σ H R => R J H) g tt te vs σ H0 Q) : tLc (fun σ H R => iList K t σ H R ∨ iTup K t σ H R) g tt te vs σ H Q := Or.inl h
theorem notin_rows {S : Addr → Prop} {H : Hp} {u v : V} {l : List Nat} {L : List (List Nat)} {Q : VK} (h1 : Dp K (off S H) u (nL l)) (h2 : Dp K (off S H) v (nLL L)) (q : Q (.bl (!decide (l ∈ L))) H) : rNotInD K u v H Q := by
  refine ⟨nL l, L.map nL, dp_same off_sub _ _ h1, dp_same off_sub _ _ h2, shd_shaped (shd_nL l), shaped_nLL L, ?_⟩
  have e : ∀ L : List (List Nat), ((L.map nL).any fun z => PyData.eqv z (nL l)) = decide (l ∈ L) := fun L => by
    induction L with
    | nil => rfl
    | cons m L ih =>
      rw [List.map_cons, List.any_cons, ih, eqv_nums]
      by_cases c : m = l
      · subst c; simp
      · have c2 : ¬ l = m := fun z => c z.symm
        simp [c, c2]
  rw [e]; exact q
/-- a list of things, changed in place when nothing else knows it -/
theorem sb_mut {p L : Addr} {H H' : Hp} {o : HO} (h : SameBut p H H') (hL : H L = none) : SameBut p H (upd H' L o) := fun b ob n e => by
  have : b ≠ L := fun z => by rw [z, hL] at e; cases e
  rw [upd_ne this]
  exact h b ob n e
theorem off_mut {S : Addr → Prop} {L : Addr} {H : Hp} {o : HO} : Same (off (plus S L) H) (off (plus S L) (upd H L o)) := off_but fun b ob n h => by rw [upd_ne n]; exact h
theorem off_mut' {S : Addr → Prop} {L : Addr} {H : Hp} {o : HO} (hL : S L) : Same (off S H) (off S (upd H L o)) := fun b ob e => by
  obtain ⟨n, e⟩ := off_some e
  have ne : b ≠ L := fun z => n (z ▸ hL)
  rw [off_out n, upd_ne ne]
  exact e
theorem PotAt.mut {p L : Addr} {H : Hp} {o : HO} (h : PotAt H p) (n : L ≠ p) : PotAt (upd H L o) p := by
  obtain ⟨x, y, h, hy⟩ := h
  exact ⟨x, y, by rw [upd_ne (fun z => n z.symm)]; exact h, hy⟩
end
theorem bools2_sh (b : Bool) : SeqAt.shaped (.list [.bool b, .bool b]) = true := by cases b <;> decide +kernel
/-- [b, b] != [b, b] -/
theorem ne_bools {K : PySem.W.Frag} {S : Addr → Prop} {H : Hp} {u v : V} {b : Bool} {Q : VK} (h1 : Dp K (off S H) u (.list [.bool b, .bool b])) (h2 : Dp K (off S H) v (.list [.bool b, .bool b])) (q : Q (.bl false) H) : rNeD K u v H Q := by
  refine ⟨_, _, dp_same off_sub _ _ h1, dp_same off_sub _ _ h2, bools2_sh b, bools2_sh b, ?_⟩
  rw [bools_eq]; exact q
theorem ev_tupof {K : PySem.W.Frag} {S : Addr → Prop} {H0 : Hp} {σ : L2.St} {te : TE} {l : List Nat} (kn : Kn S H0) (h : EvD K S H0 σ te (nL l)) : EvD K S H0 σ (tCB (rTupOf K) (tCons te tNil)) (.tuple (l.map nD)) := fun H1 s Q q =>
  t_cb1 (h H1 s _ fun u H2 s2 d2 => tup_d (ds := l.map nD) (kn.same (s.trans s2)) d2 rfl fun z H3 s3 d3 => q z H3 (s2.trans s3) d3)
theorem ev_drop1 {K : PySem.W.Frag} {S : Addr → Prop} {H0 : Hp} {σ : L2.St} {te : TE} {l : List Nat} (kn : Kn S H0) (h : EvD K S H0 σ te (nL l)) : EvD K S H0 σ (tSl (rSlL K) te (tPart (tC (.int 1))) tNoPart) (nL (l.drop 1)) := fun H1 s Q q =>
  t_sl (h H1 s _ fun u H2 s2 d2 => o_some (t_c ⟨_, rfl, o_none (by
    by_cases c : 1 ≤ l.length
    · exact sl_drop (ms := l) (m := 1) (f := nD) (kn.same (s.trans s2)) d2 c fun z H3 s3 d3 => q z H3 (s2.trans s3) d3
    · have : l = [] := by cases l with | nil => rfl | cons a r => exact (c (by rw [List.length_cons]; omega)).elim
      subst this
      obtain ⟨a, xs, rfl, h1, ha⟩ := list_at (ds := []) d2
      cases ha
      exact ⟨a, [], rfl, off_sub.seq h1, fun p hp => q _ _ (s2.trans (same_new hp)) (dp_newL (kn.same (s.trans s2)) hp .nil)⟩)⟩))
end K31

set_option maxRecDepth 100000
set_option maxHeartbeats 8000000
namespace K31
open PySem PySem.Spec PyProof.Rows L2 Kh
theorem eqvAll_bools : ∀ bs : List Bool, PyData.eqvAll (bs.map PyData.bool) (bs.map PyData.bool) = true
  | [] => by rw [List.map_nil, PyData.eqvAll]
  | b :: bs => by
    rw [List.map_cons, PyData.eqvAll, eqvAll_bools bs]
    cases b <;> decide +kernel
theorem shd_bool (b : Bool) : Shd (.bool b) := ⟨by simp [PyData.canLay0], by simp [PyData.depth]⟩
theorem ne_blist {K : PySem.W.Frag} {S : Addr → Prop} {H : Hp} {u v : V} {bs : List Bool} {Q : VK} (h1 : Dp K (off S H) u (.list (bs.map PyData.bool))) (h2 : Dp K (off S H) v (.list (bs.map PyData.bool))) (q : Q (.bl false) H) : rNeD K u v H Q := by
  have sh : SeqAt.shaped (.list (bs.map PyData.bool)) = true := shaped_list fun d hd => by
    obtain ⟨b, _, rfl⟩ := List.mem_map.mp hd
    exact shd_bool b
  refine ⟨_, _, dp_same off_sub _ _ h1, dp_same off_sub _ _ h2, sh, sh, ?_⟩
  rw [PyData.eqv, eqvAll_bools]; exact q
/-- no third that is too long -/
def okL (d : PyData) : Prop := ∀ dv du dl es, d = .tuple [dv, du, dl] → items dl = some es → es.length ≤ 900
theorem okL_nums {a b : PyData} {c : Bool} {l : List Nat} (h : l.length ≤ 900) : okL (.tuple [a, b, sq c (l.map nD)]) := fun dv du dl es e e2 => by
  cases e
  rw [items_sq] at e2
  cases e2
  rw [List.length_map]; exact h
theorem okL_list {a b : PyData} {ds : List PyData} (h : ds.length ≤ 900) : okL (.tuple [a, b, .list ds]) := fun dv du dl es e e2 => by
  cases e
  cases e2
  exact h
theorem okL_one {a b c : PyData} (h : items c = none) : okL (.tuple [a, b, c]) := fun dv du dl es e e2 => by
  cases e
  rw [h] at e2
  cases e2
theorem okL_no {d : PyData} (h : ∀ dv du dl, d ≠ .tuple [dv, du, dl]) : okL d := fun dv du dl es e _ => (h _ _ _ e).elim
section
variable {K : PySem.W.Frag} {S : Addr → Prop} {H0 : Hp} {σ : L2.St}
/-- [g x for x in ms] -/
theorem ev_mapD {t te : TE} {sl : Nat} {vs : List Nat} (b : Bool) (ms : List Nat) (g : Nat → PyData) (kn : Kn S H0) (h : EvD K S H0 σ t (sq b (ms.map nD))) (few : ms.length ≤ 1000) (hw : ∀ x, wipe ((wipe σ vs).set sl (some x)) vs = wipe σ vs)
    (body : ∀ m ∈ ms, ∀ H1 S', Kn S' H1 → Same (off S H0) (off S' H1) → EvD K S' H1 ((wipe σ vs).set sl (some (.int (m : Nat)))) te (g m)) :
    EvD K S H0 σ (tLc (fun σ H R => iList K t σ H R ∨ iTup K t σ H R) (gName sl) tYes te vs) (.list (ms.map g)) := fun H1 s Q q =>
  lcM b ms nD g (kn.same s) (fun Q q => h H1 s Q q) (by omega) hw (fun m hm x H2 S2 s2 kn2 dx hS ho Q2 q2 => by cases dx; exact body m hm H2 S2 kn2 ((off_same s).trans ho) H2 (Same.refl _) Q2 q2)
    fun D H2 ys hD s2 hd2 h2 => q _ _ s2 h2
theorem et_tst {te : TE} {b : Bool} (h : EvD K S H0 σ te (.bool b)) : EvT H0 σ (tTest te) b := fun H1 s Q q => b_test (h H1 s _ fun u H' s' d => by cases d; exact ⟨_, rfl, q H' s'⟩)
theorem np_tup {H : Hp} {v : V} {ds : List PyData} (h : Np H v (.tuple ds)) : ∃ a xs, v = .ref a ∧ H a = some (.tup xs) ∧ xs.length = ds.length ∧ ∀ (i : Nat) x d, xs[i]? = some x → ds[i]? = some d → Np H x d := by
  cases h with
  | tup h l t => exact ⟨_, _, rfl, h, l, t⟩
theorem ev_tup3 {t1 t2 t3 : TE} {a b c : PyData} (kn : Kn S H0) (h1 : EvD K S H0 σ t1 a) (h2 : EvD K S H0 σ t2 b) (h3 : EvD K S H0 σ t3 c) : EvD K S H0 σ (tTup (tCons t1 (tCons t2 (tCons t3 tNil)))) (.tuple [a, b, c]) :=
  ev_tup (ds := [a, b, c]) kn (ea_cons h1 (ea_cons h2 (ea_cons h3 ea_nil))) (show 3 ≤ 100 by decide)
theorem ev_lst3 {t1 t2 t3 : TE} {a b c : PyData} (kn : Kn S H0) (h1 : EvD K S H0 σ t1 a) (h2 : EvD K S H0 σ t2 b) (h3 : EvD K S H0 σ t3 c) : EvD K S H0 σ (tLst (tCons t1 (tCons t2 (tCons t3 tNil)))) (.list [a, b, c]) :=
  ev_lst (ds := [a, b, c]) kn (ea_cons h1 (ea_cons h2 (ea_cons h3 ea_nil))) (show 3 ≤ 100 by decide)
theorem ev_nilL (kn : Kn S H0) : EvD K S H0 σ (tLst tNil) (.list []) := ev_lst kn ea_nil (show 0 ≤ 100 by decide)
theorem ev_nilT (kn : Kn S H0) : EvD K S H0 σ (tTup tNil) (.tuple []) := ev_tup kn ea_nil (show 0 ≤ 100 by decide)
/-- things + [..] -/
theorem t_catL {ta : TA} {k : Nat} {L : Addr} {us : List V} {ds es : List PyData} {H : Hp} {Q : VK} (hk : σ[k]? = some (some (.ref L))) (hL : H L = some (.lst us)) (kn : Kn S H) (d : DpAll K (off S H) us ds) (h : EvA K S H σ ta es) (l1 : us.length ≤ 100) (l2 : es.length ≤ 10)
    (q : ∀ (L' : Addr) H' us', Same H H' → H' L' = some (.lst us') → DpAll K (off S H') us' (ds ++ es) → us'.length = us.length + es.length → Q (.ref L') H') : tOp (rCatS K) (tVar k) (tLst ta) σ H Q :=
  t_op (t_var hk (t_lst (h H (Same.refl _) _ fun ws H1 s1 d1 => by
    have lw := dpa_len d1
    refine ⟨Nat.le_trans (show ws.length ≤ 1000 by omega) (by decide), fun L2' hL2 => ?_⟩
    have s2 := same_new (o := HO.lst ws) hL2
    refine ⟨L, L2', us, ws, rfl, rfl, sqL (s2 _ _ (s1 _ _ hL)), sqL upd_same, Nat.le_trans (show us.length + ws.length ≤ 1000 by omega) (by decide), fun L3 hL3 => ?_⟩
    have s3 := same_new (o := HO.lst (us ++ ws)) hL3
    exact q L3 _ _ (s1.trans (s2.trans s3)) upd_same (dpa_app (dpa_same (off_same (s1.trans (s2.trans s3))) _ _ d) (dpa_same (off_same (s2.trans s3)) _ _ d1)) (by rw [List.length_append, lw]))))
end
section
variable {P : Program} {w : World} {K : PySem.W.Frag} {mg : Str → Option Value} {base : Heap} {a : Nat → Addr} {fd : Nat → FuncData} {C : Addr} {tk : Nat → Tok}
end
end K31

set_option maxRecDepth 100000
set_option maxHeartbeats 4000000
namespace K31
open PySem PySem.Spec PyProof.Rows L2 Kh
section
variable {K : PySem.W.Frag}
theorem s_en {α : Type} {S : Addr → Prop} {iv : Nat} {v : V} {s1 s2 : Nat} {tb : TS} {D : Ends} {σ : L2.St} {H : Hp} (b : Bool) (ms : List α) (f : α → PyData) (hi : σ[iv]? = some (some v)) (hd : Dp K (off S H) v (sq b (ms.map f))) (Pv : Nat → L2.St → Hp → Prop) (h0 : Pv 0 σ H) (hG : ∀ i σ' H', Pv i σ' H' → Same (off S H) H')
    (hst : ∀ i m y σ' H' H'', ms[i]? = some m → m ∈ ms → Dp K (off S H) y (f m) → Pv i σ' H' → Same H' H'' → tb { D with nx := Pv (i + 1), ct := Pv (i + 1), bk := D.nx } ((σ'.set s1 (some (.int (i : Nat)))).set s2 (some y)) H'') (he : ∀ σ' H', Pv ms.length σ' H' → D.nx σ' H') :
    tFor (iEn K (tCons (tVar iv) tNil)) (gTup K 2 (gCons (gName s1) (gCons (gName s2) gNil))) tb D σ H := by
  obtain ⟨a, xs, rfl, hs, ha⟩ := items_at hd (items_sq b _)
  have lx := dpa_len ha
  rw [List.length_map] at lx
  unfold tFor iEn iEnum iEnumT
  rcases hs with hs | hs
  · refine .inl (a_cons (t_var hi (a_nil ?_)))
    refine ⟨a, xs, rfl, off_sub.seq hs, for_it (walk_enum (K := K) (a := a) (xs := xs)) Pv h0 (fun i σ' H' _ p => (hG i σ' H' p).seq hs) (fun i x σ' H' H'' hi p y => ?_) fun σ' H' p => he σ' H' (lx ▸ p)⟩
    obtain ⟨T0, x1, y1, rfl, hT, rfl, hx, hy⟩ := y
    cases hx
    obtain ⟨d, dj, dy⟩ := dpa_at ha hy
    obtain ⟨m, hj, hm, rfl⟩ := at_map dj
    exact ⟨T0, [_, y1], rfl, sqT upd_same, rfl, _, [y1], rfl, y1, [], rfl, rfl, hst i m y1 σ' H' _ hj hm dy p (same_new hT)⟩
  · refine .inr (a_cons (t_var hi (a_nil ?_)))
    refine ⟨a, xs, rfl, same_t off_sub hs, for_it (walk_enumT (K := K) (a := a) (xs := xs)) Pv h0 (fun i σ' H' _ p => same_t (hG i σ' H' p) hs) (fun i x σ' H' H'' hi p y => ?_) fun σ' H' p => he σ' H' (lx ▸ p)⟩
    obtain ⟨T0, x1, y1, rfl, hT, rfl, hx, hy⟩ := y
    cases hx
    obtain ⟨d, dj, dy⟩ := dpa_at ha hy
    obtain ⟨m, hj, hm, rfl⟩ := at_map dj
    exact ⟨T0, [_, y1], rfl, sqT upd_same, rfl, _, [y1], rfl, y1, [], rfl, rfl, hst i m y1 σ' H' _ hj hm dy p (same_new hT)⟩
end
section
variable {P : Program} {w : World} {K : PySem.W.Frag} {mg : Str → Option Value} {base : Heap} {a : Nat → Addr} {fd : Nat → FuncData} {C : Addr} {tk : Nat → Tok}
theorem sq_list (b : Bool) (ds : List PyData) : isListD (sq b ds) = true := by cases b <;> rfl
abbrev spChkV (K : PySem.W.Frag) (C : Addr) : Sp := spT K C (fun x : Bool × List Nat => [sq x.1 (x.2.map nD), nD 1]) (fun R x => x.2 ≠ [] ∧ (∀ n ∈ x.2, n < R.length) ∧ x.2.length ≤ 1000) fun _ _ => .none
theorem ok_check_values (T : Txt K mg a fd C tk) (U : TxC K mg a C) : FnOk P w K mg base CX0 4 (a 11) (fd 11) ["table", "values", "fewest"] (spChkV K C) := by
  have G_is_list : FnOk P w K mg base CX0 1 (a 2) (fd 2) ["value"] (spIsList K) := ok_is_list T
  have G_is_number_below : FnOk P w K mg base CX0 3 (a 3) (fd 3) ["value", "many"] (spBelow K) := ok_is_number_below T
  have G_Table_len := ok_Table_len (P := P) (w := w) (base := base) T U
  refine T.F_check_values.ok sc_check_values (fun vs H Q E h => spT_len (n := 2) (fun _ => rfl) h) (fun cdv A outer s H vs Q E hr h => ?_)
  obtain ⟨S, R, x, ⟨b, l⟩, us, rfl, kn, ht, tb, hd, ⟨ne, lt, ln⟩, q⟩ := h
  obtain - | ⟨dl, - | ⟨h2, ⟨⟩⟩⟩ := hd
  cases h2
  rename_i u
  replace dl : Dp K (off S H) u (sq b (l.map nD)) := dl
  replace ne : l ≠ [] := ne
  replace lt : ∀ n ∈ l, n < R.length := lt
  replace ln : l.length ≤ 1000 := ln
  have l1 := List.length_pos_iff.mpr ne
  refine ⟨_, (pss_cons (ps_if (PW.pt (pw_or (pt_not (pt_val (pe_call G_is_list (hr.mono (by omega)) (by rfl) T.m_is_list T.F_is_list.kp T.b_is_list .nil pass0 (pa_cons (pv 1) pa_nil)))) (pw_or1 (pt_cmpR op_lt (pe_callB (k_len (K := K)) (by rfl) T.z_len (by decide +kernel) (pa_cons (pv 1) pa_nil)) (pv 2) (nomark _)))))
        (pss_one ps_never) pss_nil)
      (pss_one (ps_for PassesOwn.never rfl (pi_en (K := K) (by rfl) T.z_enumerate (pa_cons (pv 1) pa_nil)) (pg_tup rfl (pgs_cons (pg_name (i := 3) sc_check_values.nd rfl (Or.inl rfl)) (pgs_cons (pg_name (i := 4) sc_check_values.nd rfl (Or.inl rfl)) pgs_nil)))
        (pss_one (ps_if (pt_not (pt_val (pe_call G_is_number_below (hr.mono (by omega)) (by rfl) T.m_is_number_below T.F_is_number_below.kp T.b_is_number_below .nil pass0 (pa_cons (pv 4) (pa_cons (pe_callB (call_lenI (runsOk G_Table_len T.b_Table_len) (hr.mono (by omega)) U.me_len) (by rfl) T.z_len (by decide +kernel) (pa_cons (pv 0) pa_nil)) pa_nil)))))
          (pss_one ps_never) pss_nil))))), ?_⟩
  refine s_seq (s_if (b_or (b_not (b_val (t_call1 (t_var rfl (spP_bl off_sub (sq b (l.map nD)) (.cons dl .nil) trivial (congrArg PyData.bool (sq_list b _)) fun H1 s1 => ⟨_, rfl, ifF rfl ?_⟩)))))))
  have kn1 := kn.same s1
  have ht1 := ht.same (off_same s1)
  have dl1 := dp_same (off_same s1) _ _ dl
  refine b_test (t_op (t_cb1 (t_var rfl (len_d off_sub dl1 (items_sq b _) (t_var rfl ⟨_, _, rfl, rfl, _, rfl, if_b (fun c => ?_) (fun c => s_next ?_)⟩)))))
  · have := of_decide_eq_true c
    rw [List.length_map] at this
    omega
  refine s_en b l nD rfl dl1 (fun i σ' H' => ∃ x3 x4 : Option V, σ' = [some (.ref x), some u, some (.int ((1 : Nat) : Int)), x3, x4] ∧ Same H1 H') ⟨_, _, rfl, Same.refl _⟩ (fun i σ' H' ⟨_, _, _, z⟩ => off_sub.trans z) (fun i m y σ' H2 H3 hm hmem dy ⟨x3, x4, e, z2⟩ z3 => ?_) fun σ' H2 ⟨x3, x4, e, z2⟩ => ?_
  · subst e
    cases dy
    have z := z2.trans z3
    have kn3 := kn1.same z
    refine s_if (b_not (b_val (t_call2 (t_var rfl (t_cb1 (t_var rfl (len_tab kn3 (ht1.same (off_same z)) tb fun H4 s4 => ⟨S, (nD m, (R.length : Nat)), kn3.same s4, .cons (.int _) (.cons (.int _) .nil), trivial, fun b H5 s5 db => ?_⟩)))))))
    replace db : Dp K (off S H5) b (.bool (belowD ((R.length : Nat) : Int) (nD m))) := db
    rw [below_ok (lt m hmem)] at db
    cases db
    exact ⟨_, rfl, ifF rfl (s_next ⟨_, _, rfl, (z.trans s4).trans s5⟩)⟩
  · subst e
    exact nx_of (q _ _ (s1.trans z2) .non)
end
end K31

set_option maxRecDepth 100000
set_option maxHeartbeats 4000000
namespace Kh
open PySem PySem.Spec PyProof.Rows L2
/-- a slice of a list, or of a tuple that is not the whole of it -/
def rSlA2 (K : PySem.W.Frag) : V → Option Int → Option Int → Hp → VK → Prop := fun x lo hi H Q => rSlL K x lo hi H Q ∨ rSlT K x lo hi H Q
theorem k_slA {X : Cx} {K : PySem.W.Frag} (h : X.K = K := by rfl) : SlR X (rSlA2 K) := by subst h; exact SlR.or sl_list sl_tup
end Kh
namespace K31
open PySem PySem.Spec PyProof.Rows L2 Kh
section
variable {K : PySem.W.Frag} {S : Addr → Prop} {H0 : Hp} {σ : L2.St} {C : Addr}
/-- xs[:i], i below the length -/
theorem sl_pre {b : Bool} {l : List Nat} {i : Nat} {H : Hp} {x : V} {Q : VK} (kn : Kn S H) (hx : Dp K (off S H) x (sq b (l.map nD))) (hi : i < l.length)
    (q : ∀ u H', Same H H' → Dp K (off S H') u (sq b ((l.take i).map nD)) → Q u H') : rSlA2 K x none (some (i : Nat)) H Q := by
  cases b with
  | false => exact .inl (sl_take (ms := l) (m := i) (f := nD) kn hx (by omega) fun z H3 s3 d3 => q z H3 s3 d3)
  | true =>
    obtain ⟨a, xs, rfl, hs, ha⟩ := tup_at (ds := l.map nD) hx
    have lx := dpa_len ha
    rw [List.length_map] at lx
    refine .inr ⟨a, xs, rfl, same_t off_sub hs, fun z => ?_, fun p hp => ?_⟩
    · have : HT.sIx xs.length xs.length (some (i : Nat)) = i := by
        unfold HT.sIx
        have h0 : ¬ ((i : Nat) : Int) < 0 := by omega
        simp [h0]
        omega
      omega
    · rw [cut_take _ _ (by omega)]
      exact q _ _ (same_new hp) (dp_newT kn hp (by rw [List.map_take]; exact dpa_take i ha))
end
/-- the value within which all are -/
def clh (R : List (List Nat)) : Nat := jn R (List.range R.length)
def inn (R : List (List Nat)) (th : List Nat) (s : Nat) : List Nat := (th.filter fun v => decide (at_ R v s = s)).mergeSort leN
/-- what is read -/
def fr (R : List (List Nat)) (th sh : List Nat) : Option (List Nat) := ((List.range sh.length).map fun i => inn R th (fj R sh (i + 1))).find? fun l => !decide (l = [])
theorem find_no {α : Type} {p : α → Bool} : ∀ {l : List α}, (∀ x ∈ l, p x = false) → l.find? p = none
  | [], _ => rfl
  | a :: l, h => by
    rw [List.find?_cons, h a List.mem_cons_self]
    exact find_no fun x hx => h x (List.mem_cons_of_mem _ hx)
theorem find_at {α : Type} {p : α → Bool} : ∀ {l : List α} {i : Nat} {x : α}, l[i]? = some x → p x = true → (∀ j y, j < i → l[j]? = some y → p y = false) → l.find? p = some x
  | [], i, x, h, _, _ => by simp at h
  | a :: l, 0, x, h, hp, _ => by
    simp at h
    subst h
    rw [List.find?_cons, hp]
  | a :: l, i + 1, x, h, hp, hn => by
    rw [List.find?_cons, hn 0 a (Nat.succ_pos _) rfl]
    exact find_at (l := l) (i := i) (by simpa using h) hp fun j y hj hy => hn (j + 1) y (Nat.succ_lt_succ hj) (by simpa using hy)
theorem fr_none {R : List (List Nat)} {th sh : List Nat} (h : ∀ i, i < sh.length → inn R th (fj R sh (i + 1)) = []) : fr R th sh = none := find_no fun x hx => by
  obtain ⟨i, hi, rfl⟩ := List.mem_map.mp hx
  rw [h i (List.mem_range.mp hi)]; rfl
theorem fr_some {R : List (List Nat)} {th sh : List Nat} {i : Nat} (hi : i < sh.length) (h : inn R th (fj R sh (i + 1)) ≠ []) (hn : ∀ j, j < i → inn R th (fj R sh (j + 1)) = []) : fr R th sh = some (inn R th (fj R sh (i + 1))) :=
  find_at (i := i) (by rw [List.getElem?_map, List.getElem?_range hi]; rfl) (by rw [decide_eq_false h]; rfl) fun j y hj hy => by
    rw [List.getElem?_map, List.getElem?_range (Nat.lt_trans hj hi)] at hy
    cases hy
    show (!decide (inn R th (fj R sh (j + 1)) = [])) = false
    rw [hn j hj]; rfl
/-- sorted of a list of whole numbers: new -/
theorem np_sortN {K : PySem.W.Frag} {S : Addr → Prop} {H : Hp} {x : V} {l : List Nat} {Q : VK} (hx : Dp K (off S H) x (nL l)) (q : ∀ u H', Same H H' → Np (off (old H) H') u (nL (l.mergeSort leN)) → Q u H') : rSortM K [x] H Q := by
  obtain ⟨a, xs, rfl, h1, ha⟩ := list_at (ds := l.map nD) hx
  have ex := dpa_nats ha
  subst ex
  refine ⟨a, _, l.map nD, rfl, off_sub.seq h1, dpa_same off_sub _ _ ha, fun d hd d' hd' => ?_, sortable_nD l, fun d hd => ?_, fun p bs hp pm em => ?_⟩
  · obtain ⟨m, _, rfl⟩ := List.mem_map.mp hd
    obtain ⟨n, _, rfl⟩ := List.mem_map.mp hd'
    rfl
  · obtain ⟨m, _, rfl⟩ := List.mem_map.mp hd
    show (PyData.int _).depth ≤ 60
    simp [PyData.depth]
  have pe : bs.map Prod.snd = (l.mergeSort leN).map nD := by
    rw [em]; exact (PySem.W.sort_maps nD fun _ _ _ _ => rfl).symm
  have pf : bs.map Prod.fst = ivs (l.mergeSort leN) := by
    have each : ∀ b ∈ bs, ∃ n : Nat, b = (V.int (n : Nat), nD n) := fun b hb => by
      have hb := pm.mem_iff.mp hb
      obtain ⟨j, hj⟩ := List.mem_iff_getElem?.mp hb
      have := List.getElem?_zip_eq_some.mp hj
      have h1 := this.1
      have h2 := this.2
      unfold ivs at h1
      rw [List.getElem?_map] at h1 h2
      cases e : l[j]? with
      | none => rw [e] at h1; cases h1
      | some n =>
        rw [e] at h1 h2
        exact ⟨n, Prod.ext (Option.some.inj h1).symm (Option.some.inj h2).symm⟩
    generalize l.mergeSort leN = m at pe
    clear em pm
    induction bs generalizing m with
    | nil => cases m with | nil => rfl | cons _ _ => simp at pe
    | cons b bs ih =>
      cases m with
      | nil => simp at pe
      | cons k m =>
        rw [List.map_cons, List.map_cons] at pe
        obtain ⟨n, rfl⟩ := each b List.mem_cons_self
        have h1 := (List.cons.inj pe).1
        have h2 := (List.cons.inj pe).2
        have : n = k := by
          have : ((n : Nat) : Int) = ((k : Nat) : Int) := PyData.int.inj h1
          omega
        subst this
        have := ih (fun c hc => each c (List.mem_cons_of_mem _ hc)) m h2
        unfold ivs at this ⊢
        rw [List.map_cons, List.map_cons, this]
  refine q _ _ (same_new hp) ?_
  rw [pf]
  exact np_ivs (fun z => z hp) upd_same
section
variable {P : Program} {w : World} {K : PySem.W.Frag} {mg : Str → Option Value} {base : Heap} {a : Nat → Addr} {fd : Nat → FuncData} {C : Addr} {tk : Nat → Tok}
theorem range_ne {R : List (List Nat)} (tb : Tb R) : List.range R.length ≠ [] := fun e => by
  have h := congrArg List.length e
  rw [List.length_range] at h
  have h2 := tb.pos
  have h3 : R.length = 0 := h
  omega
abbrev spClh (K : PySem.W.Frag) (C : Addr) : Sp := spT K C (fun _ : Unit => []) (fun R _ => Melts R) fun R _ => nD (clh R)
theorem ok_clash (T : Txt K mg a fd C tk) (U : TxC K mg a C) : FnOk P w K mg base CX0 7 (a 17) (fd 17) ["table"] (spClh K C) := by
  have G_joined := ok_joined (P := P) (w := w) (base := base) T U
  have G_Table_len := ok_Table_len (P := P) (w := w) (base := base) T U
  refine T.F_clash.ok sc_clash (fun vs H Q E h => spT_len (n := 0) (fun _ => rfl) h) (fun cdv A outer s H vs Q E hr h => ?_)
  obtain ⟨S, R, x, v, us, rfl, kn, ht, tb, ⟨⟩, me, q⟩ := h
  have h7 := tb.few
  refine ⟨_, (pss_one (ps_ret (pe_call G_joined (hr.mono (by omega)) (by rfl) T.m_joined T.F_joined.kp T.b_joined .nil pass0 (pa_cons (pv 0) (pa_cons (pe_listRg rfl (by rfl) T.z_list (prg_1 (by rfl) T.z_range (pe_callB (call_lenI (runsOk G_Table_len T.b_Table_len) (hr.mono (by omega)) U.me_len) (by rfl) T.z_len (by decide +kernel) (pa_cons (pv 0) pa_nil)))) pa_nil))))), ?_⟩
  refine s_ret (t_call2 (t_var rfl (t_cb1 (t_var rfl (len_tab kn ht tb fun H2 s2 => ⟨_, rfl, rg_ok (by omega), fun lV hV => ?_⟩)))))
  rw [rg_val]
  have kn2 := kn.same s2
  have s3 := same_new (o := HO.lst (ivs (List.range R.length))) hV
  have dV := dp_newL (K := K) kn2 hV (nats_dpa (List.range R.length))
  exact ⟨S, R, x, (false, List.range R.length), [_], rfl, kn2.same s3, ht.same (off_same (s2.trans s3)), tb, .cons dV .nil, ⟨me, range_ne tb, fun n hn => List.mem_range.mp hn, by show (List.range R.length).length ≤ 1000; rw [List.length_range]; omega⟩, fun u H' s' d' => q u H' ((s2.trans s3).trans s') d'⟩
def e1s (x : Bool × List Nat) : List PyData := [sq x.1 (x.2.map nD)]
abbrev spChkT (K : PySem.W.Frag) (C : Addr) : Sp := spT K C e1s (fun R x => (∀ n ∈ x.2, n < R.length) ∧ x.2.Nodup) fun _ _ => .none
theorem nat_sub_len : ∀ {ns ks : List Nat}, ns.Nodup → (∀ k ∈ ns, k ∈ ks) → ns.length ≤ ks.length
  | [], _, _, _ => Nat.zero_le _
  | n :: ns, ks, nd, h => by
    obtain ⟨n1, n2⟩ := List.nodup_cons.mp nd
    have hm := h n List.mem_cons_self
    have := nat_sub_len (ks := ks.erase n) n2 fun k hk => by
      have ne : k ≠ n := fun e => n1 (by rw [← e]; exact hk)
      exact (List.mem_erase_of_ne ne).mpr (h k (List.mem_cons_of_mem _ hk))
    rw [List.length_erase_of_mem hm] at this
    have := List.length_pos_of_mem hm
    rw [List.length_cons]; omega
theorem nodup_small {n : Nat} {l : List Nat} (nd : l.Nodup) (h : ∀ m ∈ l, m < n) : l.length ≤ n := by
  have := nat_sub_len nd (ks := List.range n) fun m hm => List.mem_range.mpr (h m hm)
  rwa [List.length_range] at this
theorem sq_isl (b : Bool) (ds : List PyData) : isListD (sq b ds) = true := by cases b <;> rfl
theorem ok_check_thresholds (T : Txt K mg a fd C tk) (U : TxC K mg a C) : FnOk P w K mg base CX0 4 (a 18) (fd 18) ["table", "thresholds"] (spChkT K C) := by
  have G_is_list : FnOk P w K mg base CX0 1 (a 2) (fd 2) ["value"] (spIsList K) := ok_is_list T
  have G_is_number_below : FnOk P w K mg base CX0 3 (a 3) (fd 3) ["value", "many"] (spBelow K) := ok_is_number_below T
  have G_Table_len := ok_Table_len (P := P) (w := w) (base := base) T U
  refine T.F_check_thresholds.ok sc_check_thresholds (fun vs H Q E h => spT_len (n := 1) (fun _ => rfl) h) (fun cdv A outer s H vs Q E hr h => ?_)
  obtain ⟨S, R, x, ⟨b, l⟩, us, rfl, kn, ht, tb, hd, ⟨lt, nd⟩, q⟩ := h
  obtain - | ⟨dl, ⟨⟩⟩ := hd
  rename_i u
  replace dl : Dp K (off S H) u (sq b (l.map nD)) := dl
  replace lt : ∀ n ∈ l, n < R.length := lt
  replace nd : l.Nodup := nd
  refine ⟨_, (pss_cons (ps_if (pt_not (pt_val (pe_call G_is_list (hr.mono (by omega)) (by rfl) T.m_is_list T.F_is_list.kp T.b_is_list .nil pass0 (pa_cons (pv 1) pa_nil))))
        (pss_one ps_never) pss_nil)
      (pss_one (ps_for PassesOwn.never rfl (pi_en (K := K) (by rfl) T.z_enumerate (pa_cons (pv 1) pa_nil)) (pg_tup rfl (pgs_cons (pg_name (i := 2) sc_check_thresholds.nd rfl (Or.inl rfl)) (pgs_cons (pg_name (i := 3) sc_check_thresholds.nd rfl (Or.inl rfl)) pgs_nil)))
        (pss_one (ps_if (PW.pt (pw_or (pt_not (pt_val (pe_call G_is_number_below (hr.mono (by omega)) (by rfl) T.m_is_number_below T.F_is_number_below.kp T.b_is_number_below .nil pass0 (pa_cons (pv 3) (pa_cons (pe_callB (call_lenI (runsOk G_Table_len T.b_Table_len) (hr.mono (by omega)) U.me_len) (by rfl) T.z_len (by decide +kernel) (pa_cons (pv 0) pa_nil)) pa_nil))))) (pw_or1 (pt_cmpR (k_in (K := K)) (pv 3) (pe_slice (k_slA (K := K)) (pv 1) po_none (po_some (pv 2))) (by rfl)))))
          (pss_one ps_never) pss_nil))))), ?_⟩
  refine s_seq (s_if (b_not (b_val (t_call1 (t_var rfl (spP_bl off_sub (sq b (l.map nD)) (.cons dl .nil) trivial (congrArg PyData.bool (sq_isl b _)) fun H1 s1 => ⟨_, rfl, ifF rfl (s_next ?_)⟩))))))
  have kn1 := kn.same s1
  have ht1 := ht.same (off_same s1)
  have dl1 := dp_same (off_same s1) _ _ dl
  refine s_en b l nD rfl dl1 (fun i σ' H' => ∃ x3 x4 : Option V, σ' = [some (.ref x), some u, x3, x4] ∧ Same H1 H') ⟨_, _, rfl, Same.refl _⟩ (fun i σ' H' ⟨_, _, _, z⟩ => off_sub.trans z) (fun i m y σ' H2 H3 hm hmem dy ⟨x3, x4, e, z2⟩ z3 => ?_) fun σ' H2 ⟨x3, x4, e, z2⟩ => ?_
  · subst e
    cases dy
    have z := z2.trans z3
    have kn3 := kn1.same z
    have il := (List.getElem?_eq_some_iff.mp hm).1
    refine s_if (b_or (b_not (b_val (t_call2 (t_var rfl (t_cb1 (t_var rfl (len_tab kn3 (ht1.same (off_same z)) tb fun H4 s4 => ⟨S, (nD m, (R.length : Nat)), kn3.same s4, .cons (.int _) (.cons (.int _) .nil), trivial, fun b2 H5 s5 db => ?_⟩))))))))
    replace db : Dp K (off S H5) b2 (.bool (belowD ((R.length : Nat) : Int) (nD m))) := db
    rw [below_ok (lt m hmem)] at db
    cases db
    have z5 := (z.trans s4).trans s5
    refine ⟨_, rfl, ifF rfl (b_test (t_op (t_var rfl (t_sl (t_var rfl (o_none (o_some (t_var rfl ⟨_, rfl, sl_pre (kn1.same z5) (dp_same (off_same z5) _ _ dl1) il fun w2 H6 s6 d6 => ?_⟩))))))))⟩
    refine in_d off_sub d6 (items_nats b (l.take i)) ?_
    rw [if_neg Bool.false_ne_true, mem_ints43]
    have no : m ∉ l.take i := fun hmi => by
      obtain ⟨j, hj⟩ := List.mem_iff_getElem?.mp hmi
      have jl := (List.getElem?_eq_some_iff.mp hj).1
      rw [List.length_take] at jl
      rw [List.getElem?_take_of_lt (by omega)] at hj
      have e1 := (List.getElem?_eq_some_iff.mp hj).2
      have e2 := (List.getElem?_eq_some_iff.mp hm).2
      exact (List.pairwise_iff_getElem.mp nd) j i (by omega) il (by omega) (e1.trans e2.symm)
    rw [decide_eq_false no]
    exact ⟨_, rfl, ifF rfl (s_next ⟨_, _, rfl, z5.trans s6⟩)⟩
  · subst e
    exact nx_of (q _ _ (s1.trans z2) .non)
end
end K31

set_option maxRecDepth 100000
set_option maxHeartbeats 4000000
namespace K31
open PySem PySem.Spec PyProof.Rows L2 Kh
section
variable {P : Program} {w : World} {K : PySem.W.Frag} {mg : Str → Option Value} {base : Heap} {a : Nat → Addr} {fd : Nat → FuncData} {C : Addr} {tk : Nat → Tok}
theorem inn_mem {R : List (List Nat)} {th : List Nat} {s n : Nat} (h : n ∈ inn R th s) : n ∈ th := by
  unfold inn at h
  rw [(List.mergeSort_perm _ _).mem_iff] at h
  exact (List.mem_filter.mp h).1
theorem inn_len (R : List (List Nat)) (th : List Nat) (s : Nat) : (inn R th s).length ≤ th.length := by
  unfold inn
  rw [(List.mergeSort_perm _ _).length_eq]
  exact List.length_filter_le _ _
/-- what first_read tells: none, or a new list -/
def FrV (R : List (List Nat)) (th sh : List Nat) (H0 H : Hp) (z : V) : Prop := (fr R th sh = none ∧ z = .non) ∨ ∃ l, fr R th sh = some l ∧ l ≠ [] ∧ Np (off (old H0) H) z (nL l)
def spFr (K : PySem.W.Frag) (C : Addr) : Sp := fun vs H Q _ => ∃ (S : Addr → Prop) (R : List (List Nat)) (x : Addr) (b c : Bool) (th sh : List Nat) (y z : V), vs = [.ref x, y, z] ∧ Kn S H ∧ TabAt K C (off S H) R x ∧ Tb R ∧ Melts R ∧ Dp K (off S H) y (sq b (th.map nD)) ∧ Dp K (off S H) z (sq c (sh.map nD)) ∧
  (∀ n ∈ th, n < R.length) ∧ th.Nodup ∧ sh ≠ [] ∧ (∀ n ∈ sh, n < R.length) ∧ sh.length ≤ 1000 ∧ ∀ v H', Same H H' → FrV R th sh H H' v → Q v H'
theorem ok_first_read (T : Txt K mg a fd C tk) (U : TxC K mg a C) : FnOk P w K mg base CX0 7 (a 19) (fd 19) ["table", "thresholds", "shower"] (spFr K C) := by
  have G_Table_at := ok_Table_at (P := P) (w := w) (base := base) T U
  have G_is_within := ok_is_within (P := P) (w := w) (base := base) T U
  refine T.F_first_read.ok sc_first_read (fun vs H Q E h => by obtain ⟨_, _, _, _, _, _, _, _, _, rfl, _⟩ := h; rfl) (fun cdv A outer s H vs Q E hr h => ?_)
  obtain ⟨S, R, x, b, c, th, sh, y, z, rfl, kn, ht, tb, me, dy, dz, tlt, tnd, sne, slt, sln, q⟩ := h
  have t7 : th.length ≤ 7 := Nat.le_trans (nodup_small tnd tlt) tb.few
  refine ⟨_, (pss_cons (ps_set (i := 3) sc_first_read.nd rfl (Or.inr rfl) (pe_ix (k_ix (K := K)) (pv 2) pe_int (fun _ _ => rfl)))
      (pss_cons (ps_for PassesOwn.never rfl (k_pi (K := K) (pv 2)) (pg_name (i := 4) sc_first_read.nd rfl (Or.inl rfl))
        (pss_cons (ps_set (i := 3) sc_first_read.nd rfl (Or.inr rfl) (pe_meth (pv 0) U.cls U.me_at G_Table_at (hr.mono (by omega)) T.b_Table_at .nil pass0 (pa_cons (pv 3) (pa_cons (pv 4) pa_nil))))
        (pss_cons (ps_set (i := 5) sc_first_read.nd rfl (Or.inl rfl) (pe_callB (k_sortM (K := K) hr.units) (by rfl) T.z_sorted (by decide +kernel) (pa_cons (pe_lc (own := [("value", 6)]) (g := gName 6) (tt := _) rfl sc_first_read.nd (k_pi (K := K) (pv 1)) (blkOk_by (own := [("value", 6)]) (N := first_read_N) (sc := defScope first_read_s) (by decide +kernel)) (fun _ _ _ _ _ => (pg_name (i := 6) sc_first_read.nd rfl (Or.inl rfl))) (fun _ _ _ _ _ => (pts_one (pt_val (pe_call G_is_within (hr.mono (by omega)) (by rfl) T.m_is_within T.F_is_within.kp T.b_is_within .nil pass0 (pa_cons (pv 0) (pa_cons (pv 6) (pa_cons (pv 3) pa_nil))))))) (fun _ _ _ _ _ => (pv 6))) pa_nil)))
        (pss_one (ps_if (pt_cmpR op_gt (pe_callB (k_len (K := K)) (by rfl) T.z_len (by decide +kernel) (pa_cons (pv 5) pa_nil)) pe_int (nomark _))
          (pss_one (ps_ret (pv 5))) pss_nil)))))
      (pss_one (ps_ret pe_non)))), ?_⟩
  obtain ⟨v0, r, esh⟩ : ∃ v r, sh = v :: r := by cases sh with | nil => exact (sne rfl).elim | cons v r => exact ⟨v, r, rfl⟩
  refine s_seq (s_set (t_op (t_var rfl (t_c (ix_d (i := 0) (x := nD v0) off_sub dz (items_sq c _) (by rw [esh]; rfl) fun z0 d0 => nx_of ?_)))))
  cases d0
  refine s_seq (forM (S := S) c sh nD kn (fun Q q => t_var rfl (q _ _ (Same.refl _) dz)) fun H1 s1 kn1 => ?_)
  refine ⟨fun i σ' H' => ∃ x4 x5 : Option V, σ' = [some (.ref x), some y, some z, some (.int (fj R sh i : Nat)), x4, x5, none] ∧ Same H1 H' ∧ ∀ j, j < i → inn R th (fj R sh (j + 1)) = [], ⟨_, _, by rw [esh]; rfl, Same.refl _, fun j h => by omega⟩, fun i σ' H' ⟨_, _, _, s, _⟩ => off_sub.trans s, ?_, ?_⟩
  · rintro i m u σ' H2 hm hi hmem du ⟨x4, x5, rfl, s2, no⟩
    cases du
    have s12 := s1.trans s2
    refine g_name (s_seq (s_set (t_at (kn.same s12) (ht.same (off_same s12)) tb rfl rfl rfl (fj_lt tb sne slt i) (slt m hmem) fun H3 s3 => ?_)))
    rw [← fj_step hm]
    have s13 := s12.trans s3
    have fl := fj_lt tb sne slt (i + 1)
    refine nx_of (s_seq (s_set (t_cb1 (ev_filt (K := K) (S := S) b th (fun v => decide (at_ R v (fj R sh (i + 1)) = fj R sh (i + 1))) (kn.same s13) (ev_var rfl (dp_same (off_same s13) _ _ dy)) (by omega) (fun _ => rfl) (fun _ => rfl) (fun v hv H4 S4 kn4 ho => et_val (ev_callT (enc := e2n) (f := fun R x => PyData.bool (decide (at_ R x.1 x.2 = x.2))) (v, fj R sh (i + 1)) kn4 ((ht.same (off_same s13)).same ho) tb rfl (ea_cons (ev_var rfl (.int _)) (ea_cons (ev_var rfl (.int _)) ea_nil)) ⟨tlt v hv, fl⟩)) H3 (Same.refl _) _ fun w4 H4 s4 d4 => np_sortN d4 fun w5 H5 s5 n5 => nx_of ?_))))
    replace n5 : Np (off (old H4) H5) w5 (nL (inn R th (fj R sh (i + 1)))) := n5
    have s15 := (s13.trans s4).trans s5
    have n5' : Np (off (old H) H5) w5 (nL (inn R th (fj R sh (i + 1)))) := np_off n5 fun a z => old_mono (s13.trans s4) z
    refine s_if (b_test (t_op (t_cb1 (t_var rfl (len_d off_sub ((np_off n5' kn).dp (K := K)) rfl (t_c ⟨_, _, rfl, rfl, _, rfl, if_b (fun e => ?_) (fun e => s_next ⟨_, _, rfl, s2.trans (s3.trans (s4.trans s5)), fun j hj => ?_⟩)⟩))))))
    · have ne : inn R th (fj R sh (i + 1)) ≠ [] := fun z => by
        have := of_decide_eq_true e
        rw [List.length_map, z] at this
        simp at this
      exact s_ret (t_var rfl (q _ _ s15 (.inr ⟨_, fr_some hi ne no, ne, n5'⟩)))
    · by_cases h : j < i
      · exact no j h
      · have : j = i := by omega
        subst this
        have := of_decide_eq_false e
        rw [List.length_map] at this
        exact List.length_eq_zero_iff.mp (by omega)
  · rintro σ' H2 ⟨x4, x5, rfl, s2, no⟩
    exact nx_of (s_ret (t_c (q _ _ (s1.trans s2) (.inl ⟨fr_none no, rfl⟩))))
theorem ok_read_of (T : Txt K mg a fd C tk) (U : TxC K mg a C) : FnOk P w K mg base CX0 8 (a 20) (fd 20) ["table", "thresholds", "shower"] (spFr K C) := by
  have G_check_melting := ok_check_melting (P := P) (w := w) (base := base) T U
  have G_check_thresholds := ok_check_thresholds (P := P) (w := w) (base := base) T U
  have G_check_values := ok_check_values (P := P) (w := w) (base := base) T U
  have G_first_read := ok_first_read (P := P) (w := w) (base := base) T U
  refine T.F_read_of.ok sc_read_of (fun vs H Q E h => by obtain ⟨_, _, _, _, _, _, _, _, _, rfl, _⟩ := h; rfl) (fun cdv A outer s H vs Q E hr h => ?_)
  obtain ⟨S, R, x, b, c, th, sh, y, z, rfl, kn, ht, tb, me, dy, dz, tlt, tnd, sne, slt, sln, q⟩ := h
  refine ⟨_, (pss_cons (ps_expr (pe_call G_check_melting (hr.mono (by omega)) (by rfl) T.m_check_melting T.F_check_melting.kp T.b_check_melting .nil pass0 (pa_cons (pv 0) pa_nil)))
      (pss_cons (ps_expr (pe_call G_check_thresholds (hr.mono (by omega)) (by rfl) T.m_check_thresholds T.F_check_thresholds.kp T.b_check_thresholds .nil pass0 (pa_cons (pv 0) (pa_cons (pv 1) pa_nil))))
      (pss_cons (ps_expr (pe_call G_check_values (hr.mono (by omega)) (by rfl) T.m_check_values T.F_check_values.kp T.b_check_values .nil pass0 (pa_cons (pv 0) (pa_cons (pv 2) (pa_cons pe_int pa_nil)))))
      (pss_one (ps_ret (pe_call G_first_read (hr.mono (by omega)) (by rfl) T.m_first_read T.F_first_read.kp T.b_first_read .nil pass0 (pa_cons (pv 0) (pa_cons (pv 1) (pa_cons (pv 2) pa_nil))))))))), ?_⟩
  refine s_seq (s_drop (ev_callT (enc := fun _ : Unit => []) () kn ht tb rfl ea_nil me H (Same.refl _) _ fun _ H1 s1 _ => nx_of ?_))
  refine s_seq (s_drop (ev_callT (enc := e1s) (b, th) (kn.same s1) (ht.same (off_same s1)) tb rfl (ea_cons (ev_var rfl (dp_same (off_same s1) _ _ dy)) ea_nil) ⟨tlt, tnd⟩ H1 (Same.refl _) _ fun _ H2 s2 _ => nx_of ?_))
  have s12 := s1.trans s2
  refine s_seq (s_drop (ev_callT (enc := fun x : Bool × List Nat => [sq x.1 (x.2.map nD), nD 1]) (c, sh) (kn.same s12) (ht.same (off_same s12)) tb rfl (ea_cons (ev_var rfl (dp_same (off_same s12) _ _ dz)) (ea_cons (ev_int 1) ea_nil)) ⟨sne, slt, sln⟩ H2 (Same.refl _) _ fun _ H3 s3 _ => nx_of ?_))
  have s13 := s12.trans s3
  refine s_ret (t_call3 (t_var rfl (t_var rfl (t_var rfl ⟨S, R, x, b, c, th, sh, y, z, rfl, kn.same s13, ht.same (off_same s13), tb, me, dp_same (off_same s13) _ _ dy, dp_same (off_same s13) _ _ dz, tlt, tnd, sne, slt, sln, fun v H4 s4 fv => q v H4 (s13.trans s4) ?_⟩))))
  rcases fv with ⟨h1, h2⟩ | ⟨l, h1, h2, h3⟩
  · exact .inl ⟨h1, h2⟩
  · exact .inr ⟨l, h1, h2, np_off h3 fun a z => old_mono s13 z⟩
/-- whether any two have the clash as join -/
def firm (R : List (List Nat)) (th : List Nat) : Prop := ∀ a b, a ∈ th → b ∈ th → a ≠ b → at_ R a b = clh R
def TwoV (R : List (List Nat)) (th : List Nat) (H0 H : Hp) (z : V) : Prop := (firm R th ∧ z = .non) ∨ (¬ firm R th ∧ ∃ a b, a ∈ th ∧ b ∈ th ∧ a ≠ b ∧ at_ R a b ≠ clh R ∧ Np (off (old H0) H) z (.tuple [nD a, nD b]))
def spTwo (K : PySem.W.Frag) (C : Addr) : Sp := fun vs H Q _ => ∃ (S : Addr → Prop) (R : List (List Nat)) (x : Addr) (b : Bool) (th : List Nat) (y : V), vs = [.ref x, y] ∧ Kn S H ∧ TabAt K C (off S H) R x ∧ Tb R ∧ Melts R ∧ Dp K (off S H) y (sq b (th.map nD)) ∧ (∀ n ∈ th, n < R.length) ∧ th.Nodup ∧ ∀ v H', Same H H' → TwoV R th H H' v → Q v H'
theorem ok_two_below (T : Txt K mg a fd C tk) (U : TxC K mg a C) : FnOk P w K mg base CX0 8 (a 21) (fd 21) ["table", "thresholds"] (spTwo K C) := by
  have G_Table_at := ok_Table_at (P := P) (w := w) (base := base) T U
  have G_clash := ok_clash (P := P) (w := w) (base := base) T U
  refine T.F_two_below.ok sc_two_below (fun vs H Q E h => by obtain ⟨_, _, _, _, _, _, rfl, _⟩ := h; rfl) (fun cdv A outer s H vs Q E hr h => ?_)
  obtain ⟨S, R, x, b, th, y, rfl, kn, ht, tb, me, dy, tlt, tnd, q⟩ := h
  refine ⟨_, (pss_cons (ps_for PassesOwn.never rfl (k_pi (K := K) (pv 1)) (pg_name (i := 2) sc_two_below.nd rfl (Or.inl rfl))
        (pss_one (ps_for PassesOwn.never rfl (k_pi (K := K) (pv 1)) (pg_name (i := 3) sc_two_below.nd rfl (Or.inl rfl))
          (pss_one (ps_if (PW.pt (pw_and (pt_cmpR op_ne (pv 2) (pv 3) (nomark _)) (pw_and1 (pt_cmpR op_ne (pe_meth (pv 0) U.cls U.me_at G_Table_at (hr.mono (by omega)) T.b_Table_at .nil pass0 (pa_cons (pv 2) (pa_cons (pv 3) pa_nil))) (pe_call G_clash (hr.mono (by omega)) (by rfl) T.m_clash T.F_clash.kp T.b_clash .nil pass0 (pa_cons (pv 0) pa_nil)) (nomark _)))))
            (pss_one (ps_ret (pe_tup (pa_cons (pv 2) (pa_cons (pv 3) pa_nil))))) pss_nil)))))
      (pss_one (ps_ret pe_non))), ?_⟩
  refine s_seq (forM (S := S) b th nD kn (fun Q q => t_var rfl (q _ _ (Same.refl _) dy)) fun H1 s1 kn1 => ?_)
  refine ⟨fun i σ' H' => ∃ x2 x3 : Option V, σ' = [some (.ref x), some y, x2, x3] ∧ Same H1 H' ∧ ∀ a b, a ∈ th.take i → b ∈ th → a ≠ b → at_ R a b = clh R, ⟨_, _, rfl, Same.refl _, fun a b h => by simp at h⟩, fun i σ' H' ⟨_, _, _, s, _⟩ => off_sub.trans s, ?_, ?_⟩
  · rintro i m u σ' H2 hm hi hmem du ⟨x2, x3, rfl, s2, ok⟩
    cases du
    have s12 := s1.trans s2
    refine g_name (forM (S := S) b th nD (kn.same s12) (fun Q q => t_var rfl (q _ _ (Same.refl _) (dp_same (off_same s12) _ _ dy))) fun H3 s3 kn3 => ?_)
    have s13 := s12.trans s3
    refine ⟨fun j σ' H' => ∃ x3 : Option V, σ' = [some (.ref x), some y, some (.int (m : Nat)), x3] ∧ Same H3 H' ∧ ∀ b, b ∈ th.take j → m ≠ b → at_ R m b = clh R, ⟨_, rfl, Same.refl _, fun b h => by simp at h⟩, fun i σ' H' ⟨_, _, s, _⟩ => off_sub.trans s, ?_, ?_⟩
    · rintro j n u2 σ' H4 hn hj hnm du2 ⟨x3, rfl, s4, ok2⟩
      cases du2
      have s14 := s13.trans s4
      have kn4 := kn.same s14
      have ht4 := ht.same (off_same s14)
      refine g_name (s_if (et_and (et_ne (n := m) (m := n) rfl rfl) (et_nen (K := K) (S := S) (ev_at kn4 ht4 tb rfl rfl rfl (tlt m hmem) (tlt n hnm)) (ev_callT (enc := fun _ : Unit => []) (pre := fun R _ => Melts R) (f := fun R _ => nD (clh R)) () kn4 ht4 tb rfl ea_nil me)) H4 (Same.refl _) _ fun H5 s5 => ?_))
      refine if_b (fun e => ?_) (fun e => s_next ⟨_, rfl, s4.trans s5, fun b hb ne => ?_⟩)
      · rw [Bool.and_eq_true] at e
        have e1 : m ≠ n := by simpa using e.1
        have e2 : at_ R m n ≠ clh R := by simpa using e.2
        refine s_ret (t_tup (a_cons (t_var rfl (a_cons (t_var rfl (a_nil ⟨le2, fun r hr => q _ _ ((s14.trans s5).trans (same_new hr)) (.inr ⟨fun f => e2 (f m n hmem hnm e1), m, n, hmem, hnm, e1, e2, ?_⟩)⟩))))))
        refine .tup (by rw [off_out (fun z => z ((s14.trans s5).free hr))]; exact upd_same) rfl fun i x d h1 h2 => ?_
        match i with
        | 0 => simp at h1 h2; subst h1; subst h2; exact .int _
        | 1 => simp at h1 h2; subst h1; subst h2; exact .int _
        | i + 2 => simp at h1
      · rw [take_snoc' hn, List.mem_append, List.mem_singleton] at hb
        rcases hb with hb | rfl
        · exact ok2 b hb ne
        · refine Classical.byContradiction fun z => ?_
          rw [decide_eq_false ne, decide_eq_false z] at e
          cases e
    · rintro σ' H4 ⟨x3, rfl, s4, ok2⟩
      rw [List.take_length] at ok2
      refine nx_of ⟨_, _, rfl, s2.trans (s3.trans s4), fun a b ha hb ne => ?_⟩
      rw [take_snoc' hm, List.mem_append, List.mem_singleton] at ha
      rcases ha with ha | rfl
      · exact ok a b ha hb ne
      · exact ok2 b hb ne
  · rintro σ' H2 ⟨x2, x3, rfl, s2, ok⟩
    rw [List.take_length] at ok
    exact nx_of (s_ret (t_c (q _ _ (s1.trans s2) (.inl ⟨fun a b ha hb ne => ok a b ha hb ne, rfl⟩))))
theorem twoV_none {R : List (List Nat)} {th : List Nat} {H0 H : Hp} {z : V} {B : Bool} (h : TwoV R th H0 H z) (hB : firm R th ↔ B = true) : decide (z = .non) = B := by
  rcases h with ⟨h1, rfl⟩ | ⟨h1, v, u, _, _, _, _, n⟩
  · rw [hB.mp h1]; rfl
  · have : B = false := Bool.eq_false_iff.mpr fun e => h1 (hB.mpr e)
    rw [this]
    refine decide_eq_false fun e => ?_
    rw [e] at n
    cases n
def frmB (R : List (List Nat)) (th : List Nat) : Bool := th.all fun a => th.all fun b => decide (a = b) || decide (at_ R a b = clh R)
theorem frmB_iff {R : List (List Nat)} {th : List Nat} : firm R th ↔ frmB R th = true := by
  unfold frmB firm
  rw [List.all_eq_true]
  constructor
  · intro h a ha
    rw [List.all_eq_true]
    intro b hb
    by_cases e : a = b
    · rw [decide_eq_true e]; rfl
    · rw [decide_eq_true (h a b ha hb e), Bool.or_true]
  · intro h a b ha hb ne
    have := List.all_eq_true.mp (h a ha) b hb
    rw [decide_eq_false ne, Bool.false_or] at this
    exact of_decide_eq_true this
abbrev spFirm (K : PySem.W.Frag) (C : Addr) : Sp := spT K C e1s (fun R x => Melts R ∧ (∀ n ∈ x.2, n < R.length) ∧ x.2.Nodup) fun R x => .bool (frmB R x.2)
theorem ok_are_firm (T : Txt K mg a fd C tk) (U : TxC K mg a C) : FnOk P w K mg base CX0 9 (a 22) (fd 22) ["table", "thresholds"] (spFirm K C) := by
  have G_check_melting := ok_check_melting (P := P) (w := w) (base := base) T U
  have G_check_thresholds := ok_check_thresholds (P := P) (w := w) (base := base) T U
  have G_two_below := ok_two_below (P := P) (w := w) (base := base) T U
  refine T.F_are_firm.ok sc_are_firm (fun vs H Q E h => spT_len (n := 1) (fun _ => rfl) h) (fun cdv A outer s H vs Q E hr h => ?_)
  obtain ⟨S, R, x, ⟨b, th⟩, us, rfl, kn, ht, tb, hd, ⟨me, tlt, tnd⟩, q⟩ := h
  obtain - | ⟨dy, ⟨⟩⟩ := hd
  rename_i y
  replace dy : Dp K (off S H) y (sq b (th.map nD)) := dy
  refine ⟨_, (pss_cons (ps_expr (pe_call G_check_melting (hr.mono (by omega)) (by rfl) T.m_check_melting T.F_check_melting.kp T.b_check_melting .nil pass0 (pa_cons (pv 0) pa_nil)))
      (pss_cons (ps_expr (pe_call G_check_thresholds (hr.mono (by omega)) (by rfl) T.m_check_thresholds T.F_check_thresholds.kp T.b_check_thresholds .nil pass0 (pa_cons (pv 0) (pa_cons (pv 1) pa_nil))))
      (pss_one (ps_ret (pe_cmpR op_isN (pe_call G_two_below (hr.mono (by omega)) (by rfl) T.m_two_below T.F_two_below.kp T.b_two_below .nil pass0 (pa_cons (pv 0) (pa_cons (pv 1) pa_nil))) pe_non (nomark _)))))), ?_⟩
  refine s_seq (s_drop (ev_callT (enc := fun _ : Unit => []) () kn ht tb rfl ea_nil me H (Same.refl _) _ fun _ H1 s1 _ => nx_of ?_))
  refine s_seq (s_drop (ev_callT (enc := e1s) (b, th) (kn.same s1) (ht.same (off_same s1)) tb rfl (ea_cons (ev_var rfl (dp_same (off_same s1) _ _ dy)) ea_nil) ⟨tlt, tnd⟩ H1 (Same.refl _) _ fun _ H2 s2 _ => nx_of ?_))
  have s12 := s1.trans s2
  refine s_ret (t_op (t_call2 (t_var rfl (t_var rfl ⟨S, R, x, b, th, y, rfl, kn.same s12, ht.same (off_same s12), tb, me, dp_same (off_same s12) _ _ dy, tlt, tnd, fun v H3 s3 tv => t_c ⟨rfl, ?_⟩⟩))))
  rw [twoV_none tv frmB_iff]
  exact q _ _ (s12.trans s3) (.bl _)
/-- what unlike_showers tells -/
def UnV (R : List (List Nat)) (th : List Nat) (H0 H : Hp) (z : V) : Prop := (firm R th ∧ z = .non) ∨ (¬ firm R th ∧ ∃ a b, a ∈ th ∧ b ∈ th ∧ a ≠ b ∧ at_ R a b ≠ clh R ∧ Np (off (old H0) H) z (.tuple [nL [a, b], nL [b, a]]))
def spUn (K : PySem.W.Frag) (C : Addr) : Sp := fun vs H Q _ => ∃ (S : Addr → Prop) (R : List (List Nat)) (x : Addr) (b : Bool) (th : List Nat) (y : V), vs = [.ref x, y] ∧ Kn S H ∧ TabAt K C (off S H) R x ∧ Tb R ∧ Melts R ∧ Dp K (off S H) y (sq b (th.map nD)) ∧ (∀ n ∈ th, n < R.length) ∧ th.Nodup ∧ ∀ v H', Same H H' → UnV R th H H' v → Q v H'
theorem ok_unlike_showers (T : Txt K mg a fd C tk) (U : TxC K mg a C) : FnOk P w K mg base CX0 9 (a 23) (fd 23) ["table", "thresholds"] (spUn K C) := by
  have G_check_melting := ok_check_melting (P := P) (w := w) (base := base) T U
  have G_check_thresholds := ok_check_thresholds (P := P) (w := w) (base := base) T U
  have G_two_below := ok_two_below (P := P) (w := w) (base := base) T U
  refine T.F_unlike_showers.ok sc_unlike_showers (fun vs H Q E h => by obtain ⟨_, _, _, _, _, _, rfl, _⟩ := h; rfl) (fun cdv A outer s H vs Q E hr h => ?_)
  obtain ⟨S, R, x, b, th, y, rfl, kn, ht, tb, me, dy, tlt, tnd, q⟩ := h
  refine ⟨_, (pss_cons (ps_expr (pe_call G_check_melting (hr.mono (by omega)) (by rfl) T.m_check_melting T.F_check_melting.kp T.b_check_melting .nil pass0 (pa_cons (pv 0) pa_nil)))
      (pss_cons (ps_expr (pe_call G_check_thresholds (hr.mono (by omega)) (by rfl) T.m_check_thresholds T.F_check_thresholds.kp T.b_check_thresholds .nil pass0 (pa_cons (pv 0) (pa_cons (pv 1) pa_nil))))
      (pss_cons (ps_set (i := 2) sc_unlike_showers.nd rfl (Or.inl rfl) (pe_call G_two_below (hr.mono (by omega)) (by rfl) T.m_two_below T.F_two_below.kp T.b_two_below .nil pass0 (pa_cons (pv 0) (pa_cons (pv 1) pa_nil))))
      (pss_cons (ps_if (pt_cmpR op_isN (pv 2) pe_non (nomark _))
        (pss_one (ps_ret pe_non)) pss_nil)
      (pss_one (ps_ret (pe_tup (pa_cons (pe_lst (pa_cons (pe_ix (k_ix (K := K)) (pv 2) pe_int (fun _ _ => rfl)) (pa_cons (pe_ix (k_ix (K := K)) (pv 2) pe_int (fun _ _ => rfl)) pa_nil))) (pa_cons (pe_lst (pa_cons (pe_ix (k_ix (K := K)) (pv 2) pe_int (fun _ _ => rfl)) (pa_cons (pe_ix (k_ix (K := K)) (pv 2) pe_int (fun _ _ => rfl)) pa_nil))) pa_nil))))))))), ?_⟩
  refine s_seq (s_drop (ev_callT (enc := fun _ : Unit => []) () kn ht tb rfl ea_nil me H (Same.refl _) _ fun _ H1 s1 _ => nx_of ?_))
  refine s_seq (s_drop (ev_callT (enc := e1s) (b, th) (kn.same s1) (ht.same (off_same s1)) tb rfl (ea_cons (ev_var rfl (dp_same (off_same s1) _ _ dy)) ea_nil) ⟨tlt, tnd⟩ H1 (Same.refl _) _ fun _ H2 s2 _ => nx_of ?_))
  have s12 := s1.trans s2
  refine s_seq (s_set (t_call2 (t_var rfl (t_var rfl ⟨S, R, x, b, th, y, rfl, kn.same s12, ht.same (off_same s12), tb, me, dp_same (off_same s12) _ _ dy, tlt, tnd, fun v H3 s3 tv => nx_of ?_⟩))))
  have s13 := s12.trans s3
  rcases tv with ⟨f, rfl⟩ | ⟨nf, v1, v2, h1, h2, ne, nc, nz⟩
  · exact s_seq (s_if (b_test (t_op (t_var rfl (t_c ⟨rfl, _, rfl, ifT rfl (s_ret (t_c (q _ _ s13 (.inl ⟨f, rfl⟩))))⟩)))))
  · have zn : decide (v = .non) = false := decide_eq_false fun e => by rw [e] at nz; cases nz
    have dz : Dp K (off S H3) v (.tuple [nD v1, nD v2]) := (np_off nz fun b hb => kn.same s12 b hb).dp
    refine s_seq (s_if (b_test (t_op (t_var rfl (t_c ⟨rfl, _, rfl, ifF (by rw [zn]) (s_next ?_)⟩)))))
    have pick0 : ∀ {H'}, Same H3 H' → EvD K S H' [some (.ref x), some y, some v] (tOp (rIx K) (tVar 2) (tC (.int 0))) (nD v1) := fun s => ev_ix (i := 0) (ev_var rfl (dp_same (off_same s) _ _ dz)) rfl (ev_int 0) rfl
    have pick1 : ∀ {H'}, Same H3 H' → EvD K S H' [some (.ref x), some y, some v] (tOp (rIx K) (tVar 2) (tC (.int 1))) (nD v2) := fun s => ev_ix (i := 1) (ev_var rfl (dp_same (off_same s) _ _ dz)) rfl (ev_int 1) rfl
    refine s_ret (t_tup (a_cons (t_lst (a_cons (pick0 (Same.refl _) H3 (Same.refl _) _ fun u1 H4 s4 d4 => a_cons (pick1 s4 H4 (Same.refl _) _ fun u2 H5 s5 d5 => a_nil ⟨le2, fun p1 hp1 => a_cons (t_lst (a_cons (pick1 ((s4.trans s5).trans (same_new hp1)) _ (Same.refl _) _ fun u3 H6 s6 d6 => a_cons (pick0 (((s4.trans s5).trans (same_new hp1)).trans s6) H6 (Same.refl _) _ fun u4 H7 s7 d7 => a_nil ⟨le2, fun p2 hp2 => a_nil ⟨le2, fun p3 hp3 => ?_⟩⟩))))⟩))))))
    cases d4
    cases d5
    cases d6
    cases d7
    have sA := same_new (o := HO.lst [V.int (v1 : Nat), V.int (v2 : Nat)]) hp1
    have sB := same_new (o := HO.lst [V.int (v2 : Nat), V.int (v1 : Nat)]) hp2
    have sC := same_new (o := HO.tup [V.ref p1, V.ref p2]) hp3
    have h1' := upd_same (H := H5) (a := p1) (o := HO.lst (ivs [v1, v2]))
    have h2' := upd_same (H := H7) (a := p2) (o := HO.lst (ivs [v2, v1]))
    have sAll := s13.trans ((s4.trans s5).trans (sA.trans ((s6.trans s7).trans (sB.trans sC))))
    refine q _ _ sAll (.inr ⟨nf, v1, v2, h1, h2, ne, nc, ?_⟩)
    have f1 : H p1 = none := (s13.trans (s4.trans s5)).free hp1
    have f2 : H p2 = none := (s13.trans ((s4.trans s5).trans (sA.trans (s6.trans s7)))).free hp2
    have f3 : H p3 = none := (s13.trans ((s4.trans s5).trans (sA.trans ((s6.trans s7).trans sB)))).free hp3
    refine .tup (by rw [off_out (fun z => z f3)]; exact upd_same) rfl fun i w d g1 g2 => ?_
    match i with
    | 0 =>
      simp at g1 g2
      subst g1
      subst g2
      exact np_ivs (ns := [v1, v2]) (fun z => z f1) (((s6.trans s7).trans (sB.trans sC)) _ _ h1')
    | 1 =>
      simp at g1 g2
      subst g1
      subst g2
      exact np_ivs (ns := [v2, v1]) (fun z => z f2) (sC _ _ h2')
    | i + 2 => simp at g1
end
end K31

set_option maxRecDepth 100000
set_option maxHeartbeats 4000000
namespace K31
open PySem PySem.Spec PyProof.Rows L2 Kh
/-- what natsN tells -/
theorem natsN_some {n : Nat} {th : Th} {ns : List Nat} (h : natsN n th = some ns) : ∃ b ds, th = .dat (sq b (ns.map nD)) ∧ itemsT th = some ds ∧ ds.length = ns.length ∧ ∀ m ∈ ns, m < n := by
  unfold natsN at h
  cases e : itemsT th with
  | none => rw [e] at h; cases h
  | some ds =>
    rw [e] at h
    simp only at h
    by_cases c : ds.all (belowD (n : Nat)) = true
    · rw [if_pos c] at h
      cases h
      obtain ⟨h1, h2⟩ := below_nats c
      cases th with
      | dic ks => cases e
      | dat d =>
        obtain ⟨b, rfl⟩ := items_sq' e
        exact ⟨b, ds, by rw [← h1], rfl, by rw [List.length_map], h2⟩
    · rw [if_neg c] at h; cases h
/-- whether any data is a shower -/
def shw (R : List (List Nat)) (d : PyData) : Bool := match natsN R.length (.dat d) with
  | some ns => !decide (ns = [])
  | none => false
theorem shw_some {R : List (List Nat)} {d : PyData} (h : shw R d = true) : ∃ b ns, d = sq b (ns.map nD) ∧ ns ≠ [] ∧ ∀ n ∈ ns, n < R.length := by
  unfold shw at h
  cases e : natsN R.length (.dat d) with
  | none => rw [e] at h; cases h
  | some ns =>
    rw [e] at h
    obtain ⟨b, ds, e1, _, _, lt⟩ := natsN_some e
    cases e1
    exact ⟨b, ns, rfl, by simpa using h, lt⟩
theorem toN_map : ∀ l : List Nat, (l.map nD).map toN = l
  | [] => rfl
  | m :: l => by
    rw [List.map_cons, List.map_cons, toN_map l]; rfl
theorem all_below44 {n : Nat} : ∀ {l : List Nat}, (∀ m ∈ l, m < n) → (l.map nD).all (belowD ((n : Nat) : Int)) = true
  | [], _ => rfl
  | m :: l, h => by
    rw [List.map_cons, List.all_cons, below_ok (h m List.mem_cons_self), all_below44 fun k hk => h k (List.mem_cons_of_mem _ hk)]; rfl
theorem natsN_nums {n : Nat} {b : Bool} {l : List Nat} (h : ∀ m ∈ l, m < n) : natsN n (.dat (sq b (l.map nD))) = some l := by
  have := natsN_yes (n := n) (th := .dat (sq b (l.map nD))) (ds := l.map nD) (items_sq b _) (all_below44 h)
  rw [this, toN_map]
theorem shw_nums {R : List (List Nat)} {b : Bool} {l : List Nat} (h : ∀ m ∈ l, m < R.length) : shw R (sq b (l.map nD)) = !decide (l = []) := by
  unfold shw
  rw [natsN_nums h]
section
variable {P : Program} {w : World} {K : PySem.W.Frag} {mg : Str → Option Value} {base : Heap} {a : Nat → Addr} {fd : Nat → FuncData} {C : Addr} {tk : Nat → Tok}
def spShw (K : PySem.W.Frag) (C : Addr) : Sp := fun vs H Q _ => ∃ (S : Addr → Prop) (R : List (List Nat)) (x : Addr) (d : PyData) (v : V), vs = [.ref x, v] ∧ Kn S H ∧ TabAt K C (off S H) R x ∧ Tb R ∧ Dp K (off S H) v d ∧ (∀ ds, items d = some ds → ds.length ≤ 1000) ∧ ∀ H', Same H H' → Q (.bl (shw R d)) H'
theorem ok_is_shower (T : Txt K mg a fd C tk) (U : TxC K mg a C) : FnOk P w K mg base CX0 4 (a 24) (fd 24) ["table", "value"] (spShw K C) := by
  have G_is_list := ok_is_list (P := P) (w := w) (base := base) T
  have G_is_number_below : FnOk P w K mg base CX0 3 (a 3) (fd 3) ["value", "many"] (spBelow K) := ok_is_number_below T
  have G_Table_len := ok_Table_len (P := P) (w := w) (base := base) T U
  refine T.F_is_shower.ok sc_is_shower (fun vs H Q E h => by obtain ⟨_, _, _, _, _, rfl, _⟩ := h; rfl) (fun cdv A outer s H vs Q E hr h => ?_)
  obtain ⟨S, R, x, d, v, rfl, kn, ht, tb, hd, hlen, q⟩ := h
  refine ⟨_, (pss_one (ps_ret (pe_and (pe_call G_is_list (hr.mono (by omega)) (by rfl) T.m_is_list T.F_is_list.kp T.b_is_list .nil pass0 (pa_cons (pv 1) pa_nil)) (pe_and (pe_cmpR op_gt (pe_callB (k_len (K := K)) (by rfl) T.z_len (by decide +kernel) (pa_cons (pv 1) pa_nil)) pe_int (nomark _)) (pe_one (pe_callB (k_all (K := K) rfl) (by rfl) T.z_all (by decide +kernel) (pa_cons (pe_lc (own := [("part", 2)]) (g := gName 2) (tt := tYes) rfl sc_is_shower.nd (k_pi (K := K) (pv 1)) (blkOk_by (own := [("part", 2)]) (N := is_shower_N) (sc := defScope is_shower_s) (by decide +kernel)) (fun _ _ _ _ _ => (pg_name (i := 2) sc_is_shower.nd rfl (Or.inl rfl))) (fun _ _ _ _ _ => pts_nil) (fun _ _ _ _ _ => (pe_call G_is_number_below (hr.mono (by omega)) (by rfl) T.m_is_number_below T.F_is_number_below.kp T.b_is_number_below .nil pass0 (pa_cons (pv 2) (pa_cons (pe_callB (call_lenI (runsOk G_Table_len T.b_Table_len) (hr.mono (by omega)) U.me_len) (by rfl) T.z_len (by decide +kernel) (pa_cons (pv 0) pa_nil)) pa_nil))))) pa_nil))))))), ?_⟩
  have no : shw R d = false → ∀ {H'}, Same H H' → Q (.bl false) H' := fun e {H'} s => by
    rw [e] at q
    exact q H' s
  refine s_ret (t_andV (t_call1 (t_var rfl (spP_bl off_sub d (.cons hd .nil) trivial rfl fun H1 s1 => bl_if (fun el => ?_) (fun el => no ?_ s1)))))
  rotate_left
  · have : items d = none := by
      have := items_list (d := d)
      rw [show isListD d = false from el] at this
      cases h : items d with
      | none => rfl
      | some ds => rw [h] at this; cases this
    unfold shw
    rw [natsN_none (th := .dat d) this]
  obtain ⟨ds, hds⟩ : ∃ ds, items d = some ds := by
    have := items_list (d := d)
    rw [show isListD d = true from el] at this
    cases h : items d with
    | none => rw [h] at this; cases this
    | some ds => exact ⟨ds, rfl⟩
  obtain ⟨c, rfl⟩ := items_sq' hds
  have l1000 := hlen ds hds
  replace hd : Dp K (off S H) v (sq c ds) := hd
  have kn1 := kn.same s1
  have ht1 := ht.same (off_same s1)
  have hd1 := dp_same (off_same s1) _ _ hd
  refine t_andV (t_op (t_cb1 (t_var rfl (len_d off_sub hd1 hds (t_c ⟨_, _, rfl, rfl, bl_if (fun e => ?_) (fun e => no ?_ s1)⟩)))))
  rotate_left
  · have e0 : ds = [] := by
      have := of_decide_eq_false e
      exact List.length_eq_zero_iff.mp (by omega)
    subst e0
    exact shw_nums (l := []) (b := c) fun m h => nomatch h
  refine t_cb1 (lcM c ds (fun d => d) (fun d => .bool (belowD ((R.length : Nat) : Int) d)) kn1 (fun Q q => t_var rfl (q _ _ (Same.refl _) (by rw [List.map_id']; exact hd1))) (by omega) (fun _ => rfl) (fun d0 hd0 z H2 S' s2 kn2 dz hS hoff Q q => ?_) fun D H2 ys hD s2 hd2 h2 => ?_)
  · exact t_call2 (t_var rfl (t_cb1 (t_var rfl (len_tab kn2 (ht1.same hoff) tb fun H3 s3 => ⟨S', (d0, ((R.length : Nat) : Int)), kn2.same s3, .cons (dp_same (off_same s3) _ _ dz) (.cons (.int _) .nil), trivial, fun b H4 s4 db => q b H4 (s3.trans s4) db⟩))))
  refine all_d (bs := ds.map (belowD ((R.length : Nat) : Int))) off_sub (by rw [List.map_map]; exact h2) ?_
  have eall : (ds.map (belowD ((R.length : Nat) : Int))).all id = shw R (sq c ds) := by
    have e1 : (ds.map (belowD ((R.length : Nat) : Int))).all id = ds.all (belowD ((R.length : Nat) : Int)) := by rw [List.all_map]; rfl
    have ne : ds ≠ [] := fun z => by
      have := of_decide_eq_true e
      rw [z] at this
      simp at this
    rw [e1]
    unfold shw
    cases ea : ds.all (belowD ((R.length : Nat) : Int)) with
    | false => rw [natsN_no (th := .dat (sq c ds)) hds ea]
    | true =>
      rw [natsN_yes (th := .dat (sq c ds)) hds ea]
      simp [ne]
  rw [eall]
  exact q _ (s1.trans s2)
/-- what is read, as data -/
def frD (o : Option (List Nat)) : PyData := match o with
  | none => .none
  | some l => nL l
theorem FrV.dp {R : List (List Nat)} {th sh : List Nat} {H0 H : Hp} {z : V} {S : Addr → Prop} (h : FrV R th sh H0 H z) (kn : Kn S H0) : Dp K (off S H) z (frD (fr R th sh)) := by
  rcases h with ⟨h1, rfl⟩ | ⟨l, h1, _, h3⟩
  · rw [h1]; exact .non
  · rw [h1]; exact (np_off h3 kn).dp
theorem frD_shaped (o : Option (List Nat)) : SeqAt.shaped (frD o) = true := by
  cases o with
  | none => decide +kernel
  | some l => exact shd_shaped (shd_nL l)
theorem eqv_frD (a b : Option (List Nat)) : PyData.eqv (frD a) (frD b) = decide (a = b) := by
  cases a with
  | none =>
    cases b with
    | none => show PyData.eqv .none .none = true; decide +kernel
    | some l =>
      show PyData.eqv .none (.list (l.map nD)) = decide (none = some l)
      rw [PyData.eqv]; rfl
  | some l =>
    cases b with
    | none =>
      show PyData.eqv (.list (l.map nD)) .none = decide (some l = none)
      rw [PyData.eqv]; rfl
    | some m =>
      show PyData.eqv (nL l) (nL m) = decide (some l = some m)
      rw [eqv_nums]
      exact decide_eq_decide.mpr ⟨fun h => by rw [h], fun h => Option.some.inj h⟩
theorem ne_frD {S : Addr → Prop} {H : Hp} {u v : V} {a b : Option (List Nat)} {Q : VK} (h1 : Dp K (off S H) u (frD a)) (h2 : Dp K (off S H) v (frD b)) (q : Q (.bl (!decide (a = b))) H) : rNeD K u v H Q := by
  refine ⟨_, _, dp_same off_sub _ _ h1, dp_same off_sub _ _ h2, frD_shaped a, frD_shaped b, ?_⟩
  rw [eqv_frD]; exact q
end
end K31

set_option maxRecDepth 100000
set_option maxHeartbeats 4000000
namespace K31
open PySem PySem.Spec PyProof.Rows L2 Kh
theorem sort_setQ {K : PySem.W.Frag} {w : World} {S : Addr → Prop} {H : Hp} {v : V} {b : Bool} {l : List Nat} {Q : VK} (kn : Kn S H) (hd : Dp K (off S H) v (sq b (l.map nD))) (few : l.length ≤ 60) (h8 : ∀ n ∈ l, n < 8)
    (q : ∀ u H', Same H H' → Dp K (off S H') u (nL (uq l)) → Q u H') : rSetSq K w [v] H fun x H2 => rSortedSet w [x] H2 Q := by
  obtain ⟨r, xs, rfl, hs, ha⟩ := items_at hd (items_sq b _)
  have ex := dpa_ints (ns := l.map fun m : Nat => ((m : Nat) : Int)) (by rw [← nD_map]; exact ha)
  subst ex
  refine ⟨r, l.map fun m : Nat => ((m : Nat) : Int), rfl, hs.imp (fun z => off_sub.seq z) (fun z => same_t off_sub z), by rw [List.length_map]; omega, fun p n hp hn => ⟨p, _, n, rfl, upd_same, by rw [List.length_map] at hn; omega, fun ns p2 hr hm hl hp2 => ?_⟩⟩
  have e : ns = (uq l).map fun m : Nat => ((m : Nat) : Int) := rise_eq hr (rise_natZ (uq_rise l)) fun k => by
    rw [hm, decide_eq_true_eq, List.mem_map, List.mem_map]
    constructor
    · rintro ⟨m, h, rfl⟩; exact ⟨m, (uq_mem h8).mpr h, rfl⟩
    · rintro ⟨m, h, rfl⟩; exact ⟨m, (uq_mem h8).mp h, rfl⟩
  subst e
  have s2 := same_new (o := SetO w p (fun j => decide (j ∈ l.map fun m : Nat => ((m : Nat) : Int))) n) hp
  refine q _ _ (s2.trans (same_new hp2)) (dp_newL (kn.same s2) hp2 ?_)
  rw [nD_map]; exact ints_dpa _
/-- what are_unlike_showers answers of any data -/
def uls (R : List (List Nat)) (th n1 n2 : List Nat) : Bool := decide (uq n1 = uq n2) && !decide (jn R n1 = clh R) && !decide (fr R th n1 = fr R th n2)
def ush (R : List (List Nat)) (th : List Nat) : PyData → Bool
  | .tuple [d1, d2] => shw R d1 && shw R d2 && (match natsN R.length (.dat d1), natsN R.length (.dat d2) with
    | some n1, some n2 => uls R th n1 n2
    | _, _ => false)
  | _ => false
theorem ush_not {R : List (List Nat)} {th : List Nat} {d : PyData} (h : ∀ d1 d2, d ≠ .tuple [d1, d2]) : ush R th d = false := by
  unfold ush
  split
  · exact (h _ _ rfl).elim
  · rfl
section
variable {P : Program} {w : World} {K : PySem.W.Frag} {mg : Str → Option Value} {base : Heap} {a : Nat → Addr} {fd : Nat → FuncData} {C : Addr} {tk : Nat → Tok}
def spUsh (K : PySem.W.Frag) (C : Addr) : Sp := fun vs H Q _ => ∃ (S : Addr → Prop) (R : List (List Nat)) (x : Addr) (b : Bool) (th : List Nat) (d : PyData) (y z : V), vs = [.ref x, y, z] ∧ Kn S H ∧ TabAt K C (off S H) R x ∧ Tb R ∧ Melts R ∧ Dp K (off S H) y (sq b (th.map nD)) ∧ (∀ n ∈ th, n < R.length) ∧ th.Nodup ∧ Dp K (off S H) z d ∧
  (∀ d1 d2 dx ds, d = .tuple [d1, d2] → (dx = d1 ∨ dx = d2) → items dx = some ds → ds.length ≤ 60) ∧ ∀ H', Same H H' → Q (.bl (ush R th d)) H'
theorem ok_are_unlike_showers (T : Txt K mg a fd C tk) (U : TxC K mg a C) : FnOk P w K mg base CX0 9 (a 25) (fd 25) ["table", "thresholds", "value"] (spUsh K C) := by
  have G_check_melting := ok_check_melting (P := P) (w := w) (base := base) T U
  have G_check_thresholds := ok_check_thresholds (P := P) (w := w) (base := base) T U
  have G_is_shower := ok_is_shower (P := P) (w := w) (base := base) T U
  have G_joined := ok_joined (P := P) (w := w) (base := base) T U
  have G_clash := ok_clash (P := P) (w := w) (base := base) T U
  have G_first_read := ok_first_read (P := P) (w := w) (base := base) T U
  refine T.F_are_unlike_showers.ok sc_are_unlike_showers (fun vs H Q E h => by obtain ⟨_, _, _, _, _, _, _, _, rfl, _⟩ := h; rfl) (fun cdv A outer s H vs Q E hr h => ?_)
  obtain ⟨S, R, x, b, th, d, y, z, rfl, kn, ht, tb, me, dy, tlt, tnd, hd, few, q⟩ := h
  have n7 := tb.few
  refine ⟨_, (pss_cons (ps_expr (pe_call G_check_melting (hr.mono (by omega)) (by rfl) T.m_check_melting T.F_check_melting.kp T.b_check_melting .nil pass0 (pa_cons (pv 0) pa_nil)))
      (pss_cons (ps_expr (pe_call G_check_thresholds (hr.mono (by omega)) (by rfl) T.m_check_thresholds T.F_check_thresholds.kp T.b_check_thresholds .nil pass0 (pa_cons (pv 0) (pa_cons (pv 1) pa_nil))))
      (pss_cons (ps_if (PW.pt (pw_or (pt_not (pt_val (pe_callB (k_isi (K := K)) (by rfl) T.z_isinstance (by decide +kernel) (pa_cons (pv 2) (pa_cons (pe_bltn (v := .ty "tuple") (by rfl) T.z_tuple (by decide +kernel) rfl) pa_nil))))) (pw_or1 (pt_cmpR op_ne (pe_callB (k_len (K := K)) (by rfl) T.z_len (by decide +kernel) (pa_cons (pv 2) pa_nil)) pe_int (nomark _)))))
        (pss_one (ps_ret pe_bl)) pss_nil)
      (pss_cons (ps_if (PW.pt (pw_or (pt_not (pt_val (pe_call G_is_shower (hr.mono (by omega)) (by rfl) T.m_is_shower T.F_is_shower.kp T.b_is_shower .nil pass0 (pa_cons (pv 0) (pa_cons (pe_ix (k_ix (K := K)) (pv 2) pe_int (fun _ _ => rfl)) pa_nil))))) (pw_or1 (pt_not (pt_val (pe_call G_is_shower (hr.mono (by omega)) (by rfl) T.m_is_shower T.F_is_shower.kp T.b_is_shower .nil pass0 (pa_cons (pv 0) (pa_cons (pe_ix (k_ix (K := K)) (pv 2) pe_int (fun _ _ => rfl)) pa_nil))))))))
        (pss_one (ps_ret pe_bl)) pss_nil)
      (pss_cons (ps_if (PW.pt (pw_or (pt_cmpR (k_neD (K := K) hr.units) (pe_callB (k_sset (w := w) rfl) (by rfl) T.z_sorted (by decide +kernel) (pa_cons (pe_callTy (k_setSq (K := K) (w := w) rfl) (by rfl) T.z_set (by decide +kernel) (pa_cons (pe_ix (k_ix (K := K)) (pv 2) pe_int (fun _ _ => rfl)) pa_nil)) pa_nil)) (pe_callB (k_sset (w := w) rfl) (by rfl) T.z_sorted (by decide +kernel) (pa_cons (pe_callTy (k_setSq (K := K) (w := w) rfl) (by rfl) T.z_set (by decide +kernel) (pa_cons (pe_ix (k_ix (K := K)) (pv 2) pe_int (fun _ _ => rfl)) pa_nil)) pa_nil)) (nomark _)) (pw_or1 (pt_cmpR op_eq (pe_call G_joined (hr.mono (by omega)) (by rfl) T.m_joined T.F_joined.kp T.b_joined .nil pass0 (pa_cons (pv 0) (pa_cons (pe_ix (k_ix (K := K)) (pv 2) pe_int (fun _ _ => rfl)) pa_nil))) (pe_call G_clash (hr.mono (by omega)) (by rfl) T.m_clash T.F_clash.kp T.b_clash .nil pass0 (pa_cons (pv 0) pa_nil)) (nomark _)))))
        (pss_one (ps_ret pe_bl)) pss_nil)
      (pss_one (ps_ret (pe_cmpR (k_neD (K := K) hr.units) (pe_call G_first_read (hr.mono (by omega)) (by rfl) T.m_first_read T.F_first_read.kp T.b_first_read .nil pass0 (pa_cons (pv 0) (pa_cons (pv 1) (pa_cons (pe_ix (k_ix (K := K)) (pv 2) pe_int (fun _ _ => rfl)) pa_nil)))) (pe_call G_first_read (hr.mono (by omega)) (by rfl) T.m_first_read T.F_first_read.kp T.b_first_read .nil pass0 (pa_cons (pv 0) (pa_cons (pv 1) (pa_cons (pe_ix (k_ix (K := K)) (pv 2) pe_int (fun _ _ => rfl)) pa_nil)))) (nomark _))))))))), ?_⟩
  refine s_seq (s_drop (ev_callT (enc := fun _ : Unit => []) () kn ht tb rfl ea_nil me H (Same.refl _) _ fun _ H1 s1 _ => nx_of ?_))
  refine s_seq (s_drop (ev_callT (enc := e1s) (b, th) (kn.same s1) (ht.same (off_same s1)) tb rfl (ea_cons (ev_var rfl (dp_same (off_same s1) _ _ dy)) ea_nil) ⟨tlt, tnd⟩ H1 (Same.refl _) _ fun _ H2 s2 _ => nx_of ?_))
  have s02 := s1.trans s2
  have kn2 := kn.same s02
  have ht2 := ht.same (off_same s02)
  have hd2 := dp_same (off_same s02) _ _ hd
  refine s_seq (s_if (b_or (b_not (b_val (t_cb2 (t_var rfl (t_c (isi_d off_sub hd2 (kit_tup d) ⟨_, rfl, ?_⟩))))))))
  cases ek : kTup d with
  | false =>
    refine ifT rfl (ifT rfl (s_ret (t_c ?_)))
    rw [ush_not fun d1 d2 e => by rw [e] at ek; cases ek] at q
    exact q H2 s02
  | true =>
  obtain ⟨ds, rfl⟩ := ktup_of ek
  refine ifF rfl (b_test (t_op (t_cb1 (t_var rfl (len_d off_sub hd2 rfl (t_c ⟨rfl, _, rfl, ?_⟩))))))
  have el : decide (V.int ((ds.length : Nat) : Int) = V.int 2) = decide (ds.length = 2) := dec_int ds.length 2
  rw [el]
  by_cases l2 : ds.length = 2
  case neg =>
    refine ifT (by rw [decide_eq_false l2]; rfl) (s_ret (t_c ?_))
    rw [ush_not fun d1 d2 e => by cases e; exact l2 rfl] at q
    exact q H2 s02
  refine ifF (by rw [decide_eq_true l2]; rfl) (s_next ?_)
  obtain ⟨d1, d2, rfl⟩ : ∃ d1 d2, ds = [d1, d2] := by
    match ds, l2 with
    | [d1, d2], _ => exact ⟨d1, d2, rfl⟩
  have f1 : ∀ ds, items d1 = some ds → ds.length ≤ 60 := fun es e => few d1 d2 d1 es rfl (.inl rfl) e
  have f2 : ∀ ds, items d2 = some ds → ds.length ≤ 60 := fun es e => few d1 d2 d2 es rfl (.inr rfl) e
  have no : ∀ {H'}, Same H2 H' → ush R th (.tuple [d1, d2]) = false → Q (.bl false) H' := fun {H'} s e => by
    rw [e] at q
    exact q H' (s02.trans s)
  have e0 : ∀ {H'}, Same H2 H' → EvD K S H' [some (.ref x), some y, some z] (tOp (rIx K) (tVar 2) (tC (.int 0))) d1 := fun s => ev_ix (i := 0) (ev_var rfl (dp_same (off_same s) _ _ hd2)) rfl (ev_int 0) rfl
  have e1 : ∀ {H'}, Same H2 H' → EvD K S H' [some (.ref x), some y, some z] (tOp (rIx K) (tVar 2) (tC (.int 1))) d2 := fun s => ev_ix (i := 1) (ev_var rfl (dp_same (off_same s) _ _ hd2)) rfl (ev_int 1) rfl
  refine s_seq (s_if (b_or (b_not (b_val (t_call2 (t_var rfl (e0 (Same.refl _) H2 (Same.refl _) _ fun u3 H3 s3 d3 => ⟨S, R, x, d1, u3, rfl, kn2.same s3, ht2.same (off_same s3), tb, d3, fun es e => by have := f1 es e; omega, fun H4 s4 => ⟨_, rfl, ?_⟩⟩)))))))
  have s24 := s3.trans s4
  cases b1 : shw R d1 with
  | false => exact ifT rfl (ifT rfl (s_ret (t_c (no s24 (by unfold ush; simp only; rw [b1]; rfl)))))
  | true =>
  refine ifF rfl (b_not (b_val (t_call2 (t_var rfl (e1 s24 H4 (Same.refl _) _ fun u5 H5 s5 d5 => ⟨S, R, x, d2, u5, rfl, (kn2.same s24).same s5, (ht2.same (off_same s24)).same (off_same s5), tb, d5, fun es e => by have := f2 es e; omega, fun H6 s6 => ⟨_, rfl, ?_⟩⟩)))))
  have s26 := s24.trans (s5.trans s6)
  cases b2 : shw R d2 with
  | false => exact ifT rfl (s_ret (t_c (no s26 (by unfold ush; simp only; rw [b2]; simp))))
  | true =>
  refine ifF rfl (s_next ?_)
  obtain ⟨c1, n1, rfl, ne1, lt1⟩ := shw_some b1
  obtain ⟨c2, n2, rfl, ne2, lt2⟩ := shw_some b2
  have eu : ush R th (.tuple [sq c1 (n1.map nD), sq c2 (n2.map nD)]) = uls R th n1 n2 := by
    unfold ush
    simp only
    rw [b1, b2, natsN_nums lt1, natsN_nums lt2]
    simp
  rw [eu] at q
  have l1 : n1.length ≤ 60 := by have := f1 _ (items_sq c1 _); rwa [List.length_map] at this
  have l2' : n2.length ≤ 60 := by have := f2 _ (items_sq c2 _); rwa [List.length_map] at this
  have kn6 := kn2.same s26
  have ht6 := ht2.same (off_same s26)
  refine s_seq (s_if (b_or (b_test (t_op (t_cb1 (t_cb1 (e0 s26 H6 (Same.refl _) _ fun u7 H7 s7 d7 => sort_setQ (kn6.same s7) d7 l1 (fun n hn => by have := lt1 n hn; omega) fun w7 H8 s8 d8 => t_cb1 (t_cb1 (e1 (s26.trans (s7.trans s8)) H8 (Same.refl _) _ fun u9 H9 s9 d9 => sort_setQ ((kn6.same (s7.trans s8)).same s9) d9 l2' (fun n hn => by have := lt2 n hn; omega) fun w9 H10 s10 d10 => ne_nums (l := uq n1) (m := uq n2) (dp_same (off_same (s9.trans s10)) _ _ d8) d10 ⟨_, rfl, if_b (fun c => ?_) (fun c => ?_)⟩)))))))))
  all_goals
    have s610 := (s7.trans s8).trans (s9.trans s10)
    have s210 := s26.trans s610
    have s010 := s02.trans s210
  · have e : uls R th n1 n2 = false := by
      unfold uls
      have : decide (uq n1 = uq n2) = false := by simpa using c
      rw [this]; rfl
    rw [e] at q
    exact ifT rfl (s_ret (t_c (q _ s010)))
  have cu : decide (uq n1 = uq n2) = true := by simpa using c
  have kn10 := kn6.same s610
  have ht10 := ht6.same (off_same s610)
  refine et_eqn (K := K) (S := S) (n := jn R n1) (m := clh R) (ev_callT (enc := fun x : Bool × List Nat => [sq x.1 (x.2.map nD)]) (pre := fun R x => Melts R ∧ x.2 ≠ [] ∧ (∀ n ∈ x.2, n < R.length) ∧ x.2.length ≤ 1000) (f := fun R x => nD (jn R x.2)) (c1, n1) kn10 ht10 tb rfl (ea_cons (e0 s210) ea_nil) ⟨me, ne1, lt1, by show n1.length ≤ 1000; omega⟩) (ev_callT (enc := fun _ : Unit => []) (pre := fun R _ => Melts R) (f := fun R _ => nD (clh R)) () kn10 ht10 tb rfl ea_nil me) H10 (Same.refl _) _ fun H11 s11 => ?_
  have s011 := s010.trans s11
  refine if_b (fun cj => ?_) (fun cj => s_next ?_)
  · have e : uls R th n1 n2 = false := by unfold uls; rw [cj]; simp
    rw [e] at q
    exact s_ret (t_c (q _ s011))
  have s211 := s210.trans s11
  have kn11 := kn2.same s211
  have ht11 := ht2.same (off_same s211)
  have eq : uls R th n1 n2 = !decide (fr R th n1 = fr R th n2) := by unfold uls; rw [cu, cj]; rfl
  rw [eq] at q
  refine s_ret (t_op (t_call3 (t_var rfl (t_var rfl (e0 s211 H11 (Same.refl _) _ fun u12 H12 s12 d12 => ⟨S, R, x, b, c1, th, n1, y, u12, rfl, kn11.same s12, ht11.same (off_same s12), tb, me, dp_same (off_same (s011.trans s12)) _ _ dy, d12, tlt, tnd, ne1, lt1, by omega, fun v13 H13 s13 fv1 => ?_⟩)))))
  have s1113 := s12.trans s13
  have s213 := s211.trans s1113
  refine t_call3 (t_var rfl (t_var rfl (e1 s213 H13 (Same.refl _) _ fun u14 H14 s14 d14 => ⟨S, R, x, b, c2, th, n2, y, u14, rfl, (kn2.same s213).same s14, (ht2.same (off_same s213)).same (off_same s14), tb, me, dp_same (off_same ((s02.trans s213).trans s14)) _ _ dy, d14, tlt, tnd, ne2, lt2, by omega, fun v15 H15 s15 fv2 => ?_⟩)))
  exact ne_frD (dp_same (off_same (s14.trans s15)) _ _ (fv1.dp (kn11.same s12))) (fv2.dp ((kn2.same s213).same s14)) (q _ ((s02.trans s213).trans (s14.trans s15)))
end
end K31

set_option maxRecDepth 100000
set_option maxHeartbeats 4000000
namespace K31
open PySem PySem.Spec PyProof.Rows L2 Kh
section
variable {P : Program} {w : World} {K : PySem.W.Frag} {mg : Str → Option Value} {base : Heap} {a : Nat → Addr} {fd : Nat → FuncData} {C : Addr} {tk : Nat → Tok}
def eLR (x : List (List Nat) × List Nat × List Nat) : List PyData := [nLL x.1, nL x.2.1, nL x.2.2]
abbrev spLRd (K : PySem.W.Frag) : Sp := spP K eLR (fun x => Tb x.1 ∧ (∀ n ∈ x.2.1, n < x.1.length) ∧ x.2.1.Nodup ∧ x.2.2 ≠ [] ∧ (∀ n ∈ x.2.2, n < x.1.length) ∧ x.2.2.length ≤ 1000) fun x => frD (fr x.1 x.2.1 x.2.2)
theorem ok__law_read (T : Txt K mg a fd C tk) : FnOk P w K mg base CX0 1 (a 33) (fd 33) ["_law_rows", "_law_thresholds", "_law_shower"] (spLRd K) := by
  refine T.F__law_read.ok sc__law_read (fun vs H Q E h => spP_len (fun _ => rfl) h) (fun cdv A outer s H vs Q E hr h => ?_)
  obtain ⟨S, ⟨R, th, sh⟩, kn, hd, ⟨tb, tlt, tnd, sne, slt, sln⟩, q⟩ := h
  obtain - | ⟨dR, - | ⟨dy, - | ⟨dz, ⟨⟩⟩⟩⟩ := hd
  rename_i vR y z
  replace dR : Dp K (off S H) vR (nLL R) := dR
  replace dy : Dp K (off S H) y (nL th) := dy
  replace dz : Dp K (off S H) z (.list (sh.map nD)) := dz
  replace tb : Tb R := tb
  replace tlt : ∀ n ∈ th, n < R.length := tlt
  replace tnd : th.Nodup := tnd
  replace sne : sh ≠ [] := sne
  replace slt : ∀ n ∈ sh, n < R.length := slt
  replace q : ∀ z H', Same H H' → Dp K (off S H') z (frD (fr R th sh)) → Q z H' := q
  have t7 : th.length ≤ 7 := Nat.le_trans (nodup_small tnd tlt) tb.few
  refine ⟨_, (pss_cons (ps_set (i := 3) sc__law_read.nd rfl (Or.inr rfl) (pe_ix (k_ix (K := K)) (pv 2) pe_int (fun _ _ => rfl)))
      (pss_cons (ps_for PassesOwn.never rfl (k_pi (K := K) (pv 2)) (pg_name (i := 4) sc__law_read.nd rfl (Or.inl rfl))
        (pss_cons (ps_set (i := 3) sc__law_read.nd rfl (Or.inr rfl) (pe_ix (k_ix (K := K)) (pe_ix (k_ix (K := K)) (pv 0) (pv 3) (fun _ _ => rfl)) (pv 4) (fun _ _ => rfl)))
        (pss_cons (ps_set (i := 5) sc__law_read.nd rfl (Or.inl rfl) (pe_callB (k_sortM (K := K) hr.units) (by rfl) T.z_sorted (by decide +kernel) (pa_cons (pe_lc (own := [("_law_one", 6)]) (g := gName 6) (tt := _) rfl sc__law_read.nd (k_pi (K := K) (pv 1)) (blkOk_by (own := [("_law_one", 6)]) (N := _law_read_N) (sc := defScope _law_read_s) (by decide +kernel)) (fun _ _ _ _ _ => (pg_name (i := 6) sc__law_read.nd rfl (Or.inl rfl))) (fun _ _ _ _ _ => (pts_one (pt_cmpR op_eq (pe_ix (k_ix (K := K)) (pe_ix (k_ix (K := K)) (pv 0) (pv 6) (fun _ _ => rfl)) (pv 3) (fun _ _ => rfl)) (pv 3) (nomark _)))) (fun _ _ _ _ _ => (pv 6))) pa_nil)))
        (pss_one (ps_if (pt_cmpR (k_neD (K := K) hr.units) (pv 5) (pe_lst pa_nil) (nomark _))
          (pss_one (ps_ret (pv 5))) pss_nil)))))
      (pss_one (ps_ret pe_non)))), ?_⟩
  obtain ⟨v0, r, esh⟩ : ∃ v r, sh = v :: r := by cases sh with | nil => exact (sne rfl).elim | cons v r => exact ⟨v, r, rfl⟩
  refine s_seq (s_set (t_op (t_var rfl (t_c (ix_d (i := 0) (x := nD v0) off_sub dz rfl (by rw [esh]; rfl) fun z0 d0 => nx_of ?_)))))
  cases d0
  refine s_seq (forM (S := S) false sh nD kn (fun Q q => t_var rfl (q _ _ (Same.refl _) dz)) fun H1 s1 kn1 => ?_)
  refine ⟨fun i σ' H' => ∃ x4 x5 : Option V, σ' = [some vR, some y, some z, some (.int (fj R sh i : Nat)), x4, x5, none] ∧ Same H1 H' ∧ ∀ j, j < i → inn R th (fj R sh (j + 1)) = [], ⟨_, _, by rw [esh]; rfl, Same.refl _, fun j h => by omega⟩, fun i σ' H' ⟨_, _, _, s, _⟩ => off_sub.trans s, ?_, ?_⟩
  · rintro i m u σ' H2 hm hi hmem du ⟨x4, x5, rfl, s2, no⟩
    cases du
    have s12 := s1.trans s2
    refine g_name (s_seq (s_set (ev_rcG (K := K) (S := S) tb rfl (dp_same (off_same s12) _ _ dR) (ev_var rfl (.int _)) (ev_var rfl (.int _)) (fj_lt tb sne slt i) (slt m hmem) H2 (Same.refl _) _ fun zz H3 s3 dzz => ?_)))
    cases dzz
    rw [← fj_step hm]
    have s13 := s12.trans s3
    have fl := fj_lt tb sne slt (i + 1)
    refine nx_of (s_seq (s_set (t_cb1 (ev_filt (K := K) (S := S) false th (fun v => decide (at_ R v (fj R sh (i + 1)) = fj R sh (i + 1))) (kn.same s13) (ev_var rfl (dp_same (off_same s13) _ _ dy)) (by omega) (fun _ => rfl) (fun _ => rfl) (fun v hv H4 S4 kn4 ho => et_eqn (K := K) (S := S4) (ev_rcG tb rfl (dp_same ((off_same s13).trans ho) _ _ dR) (ev_var rfl (.int _)) (ev_var rfl (.int _)) (tlt v hv) fl) (ev_var rfl (.int _))) H3 (Same.refl _) _ fun w4 H4 s4 d4 => np_sortN d4 fun w5 H5 s5 n5 => nx_of ?_))))
    replace n5 : Np (off (old H4) H5) w5 (nL (inn R th (fj R sh (i + 1)))) := n5
    have s15 := (s13.trans s4).trans s5
    have kn4 := kn.same (s13.trans s4)
    have d5 : Dp K (off S H5) w5 (nL (inn R th (fj R sh (i + 1)))) := (np_off n5 fun b hb => kn4 b hb).dp
    refine s_if (b_test (t_op (t_var rfl (t_lst0 fun p hp => ne_nums (l := inn R th (fj R sh (i + 1))) (m := []) (dp_same (off_same (same_new hp)) _ _ d5) (dp_newL (kn.same s15) hp .nil) ⟨_, rfl, if_b (fun e => ?_) (fun e => s_next ⟨_, _, rfl, (s2.trans (s3.trans (s4.trans s5))).trans (same_new hp), fun j hj => ?_⟩)⟩))))
    · have ne : inn R th (fj R sh (i + 1)) ≠ [] := by simpa using e
      rw [fr_some hi ne no] at q
      exact s_ret (t_var rfl (q _ _ (s15.trans (same_new hp)) (dp_same (off_same (same_new hp)) _ _ d5)))
    · by_cases h : j < i
      · exact no j h
      · have : j = i := by omega
        subst this
        simpa using e
  · rintro σ' H2 ⟨x4, x5, rfl, s2, no⟩
    rw [fr_none no] at q
    exact nx_of (s_ret (t_c (q _ _ (s1.trans s2) .non)))
theorem isiT_d {S : Addr → Prop} {H : Hp} {v : V} {d : PyData} {p : Addr} {Q : VK} (h : Dp K (off S H) v d) (hp : H p = some (.tup [.ty "list", .ty "tuple"])) (q : Q (.bl (isListD d)) H) : rIsiT K [v, .ref p] H Q := isi2_d off_sub h hp (kit_list d) (kit_tup d) q
theorem ev_notX {te : TE} {d : PyData} {b : Bool} {S : Addr → Prop} {H0 : Hp} {σ : L2.St} (h : EvD K S H0 σ te d) (hk : kInt d = true) : EvD K S H0 σ (tOp rNotX te (tC (.bl b))) (.bool (!isBl b d)) := fun H1 s Q q =>
  t_op (h H1 s _ fun u H2 s2 d2 => t_c (by
    cases d with
    | int i => cases d2; exact ⟨b, rfl, .inl ⟨_, rfl⟩, q _ H2 s2 (.bl _)⟩
    | bool a =>
      cases d2
      refine ⟨b, rfl, .inr ⟨_, rfl⟩, ?_⟩
      have e : decide (V.bl a = V.bl b) = decide (a = b) := decide_eq_decide.mpr ⟨fun z => V.bl.inj z, fun z => by rw [z]⟩
      rw [e]
      exact q _ H2 s2 (.bl _)
    | _ => cases hk))
/-- a whole number, no truth value -/
def tInt (d : PyData) : Bool := kInt d && (!isBl true d && !isBl false d)
theorem tInt_int {d : PyData} (h : tInt d = true) : ∃ i, d = .int i := by
  cases d with
  | int i => exact ⟨i, rfl⟩
  | bool b => cases b <;> cases h
  | _ => cases h
def spLShw (K : PySem.W.Frag) : Sp := fun vs H Q _ => ∃ (S : Addr → Prop) (R : List (List Nat)) (vR : V) (d : PyData) (v : V), vs = [vR, v] ∧ Kn S H ∧ Dp K (off S H) vR (nLL R) ∧ Dp K (off S H) v d ∧ (∀ ds, items d = some ds → ds.length ≤ 1000) ∧ ∀ H', Same H H' → Q (.bl (shw R d)) H'
theorem ok__law_is_shower (T : Txt K mg a fd C tk) : FnOk P w K mg base CX0 1 (a 34) (fd 34) ["_law_rows", "_law_thing"] (spLShw K) := by
  refine T.F__law_is_shower.ok sc__law_is_shower (fun vs H Q E h => by obtain ⟨_, _, _, _, _, rfl, _⟩ := h; rfl) (fun cdv A outer s H vs Q E hr h => ?_)
  obtain ⟨S, R, vR, d, v, rfl, kn, dR, hd, hlen, q⟩ := h
  refine ⟨_, (pss_cons (ps_if (PW.pt (pw_or (pt_not (pt_val (pe_callB (k_isiT (K := K)) (by rfl) T.z_isinstance (by decide +kernel) (pa_cons (pv 1) (pa_cons (pe_tup (pa_cons (pe_bltn (v := .ty "list") (by rfl) T.z_list (by decide +kernel) rfl) (pa_cons (pe_bltn (v := .ty "tuple") (by rfl) T.z_tuple (by decide +kernel) rfl) pa_nil))) pa_nil))))) (pw_or1 (pt_cmpR op_eq (pe_callB (k_len (K := K)) (by rfl) T.z_len (by decide +kernel) (pa_cons (pv 1) pa_nil)) pe_int (nomark _)))))
        (pss_one (ps_ret pe_bl)) pss_nil)
      (pss_cons (ps_if (pt_not (pt_val (pe_callB (k_all (K := K) rfl) (by rfl) T.z_all (by decide +kernel) (pa_cons (pe_lc (own := [("_law_one", 2)]) (g := gName 2) (tt := tYes) rfl sc__law_is_shower.nd (k_pi (K := K) (pv 1)) (blkOk_by (own := [("_law_one", 2)]) (N := _law_is_shower_N) (sc := defScope _law_is_shower_s) (by decide +kernel)) (fun _ _ _ _ _ => (pg_name (i := 2) sc__law_is_shower.nd rfl (Or.inl rfl))) (fun _ _ _ _ _ => pts_nil) (fun _ _ _ _ _ => (pe_and (pe_callB (k_isi (K := K)) (by rfl) T.z_isinstance (by decide +kernel) (pa_cons (pv 2) (pa_cons (pe_bltn (v := .ty "int") (by rfl) T.z_int (by decide +kernel) rfl) pa_nil))) (pe_and (pe_cmpR op_notX (pv 2) pe_bl (nomark _)) (pe_one (pe_cmpR op_notX (pv 2) pe_bl (nomark _))))))) pa_nil))))
        (pss_one (ps_ret pe_bl)) pss_nil)
      (pss_one (ps_ret (pe_callB (k_all (K := K) rfl) (by rfl) T.z_all (by decide +kernel) (pa_cons (pe_lc (own := [("_law_one", 2)]) (g := gName 2) (tt := tYes) rfl sc__law_is_shower.nd (k_pi (K := K) (pv 1)) (blkOk_by (own := [("_law_one", 2)]) (N := _law_is_shower_N) (sc := defScope _law_is_shower_s) (by decide +kernel)) (fun _ _ _ _ _ => (pg_name (i := 2) sc__law_is_shower.nd rfl (Or.inl rfl))) (fun _ _ _ _ _ => pts_nil) (fun _ _ _ _ _ => (pe_chain op_le op_lt pe_int (pv 2) (pe_callB (k_len (K := K)) (by rfl) T.z_len (by decide +kernel) (pa_cons (pv 0) pa_nil))))) pa_nil)))))), ?_⟩
  have no : shw R d = false → ∀ {H'}, Same H H' → Q (.bl false) H' := fun e {H'} s => by
    rw [e] at q
    exact q H' s
  refine s_seq (s_if (b_or (b_not (b_val (t_cb (a_cons (t_var rfl (a_cons (t_tup (a_cons (t_c (a_cons (t_c (a_nil ⟨le2, fun p hp => a_nil ?_⟩))))))))))))))
  have s1 := same_new (o := HO.tup [V.ty "list", V.ty "tuple"]) hp
  have hp' : upd H p (.tup [V.ty "list", V.ty "tuple"]) p = some (.tup [V.ty "list", V.ty "tuple"]) := upd_same
  generalize upd H p (.tup [V.ty "list", V.ty "tuple"]) = H1 at *
  refine isiT_d (dp_same (off_same s1) _ _ hd) hp' ⟨_, rfl, ?_⟩
  cases el : isListD d with
  | false =>
    refine ifT rfl (ifT rfl (s_ret (t_c (no ?_ s1))))
    have : items d = none := by
      have := items_list (d := d)
      rw [el] at this
      cases h : items d with
      | none => rfl
      | some ds => rw [h] at this; cases this
    unfold shw
    rw [natsN_none (th := .dat d) this]
  | true =>
  obtain ⟨ds, hds⟩ : ∃ ds, items d = some ds := by
    have := items_list (d := d)
    rw [el] at this
    cases h : items d with
    | none => rw [h] at this; cases this
    | some ds => exact ⟨ds, rfl⟩
  obtain ⟨c, rfl⟩ := items_sq' hds
  have l1000 := hlen ds hds
  have kn1 := kn.same s1
  have hd1 : Dp K (off S H1) v (sq c ds) := dp_same (off_same s1) _ _ hd
  have dR1 := dp_same (off_same s1) _ _ dR
  refine ifF rfl (b_test (t_op (t_cb1 (t_var rfl (len_d off_sub hd1 hds (t_c ⟨rfl, _, rfl, ?_⟩))))))
  have e0 : decide (V.int ((ds.length : Nat) : Int) = V.int 0) = decide (ds.length = 0) := dec_int ds.length 0
  rw [e0]
  by_cases l0 : ds.length = 0
  · refine ifT (by rw [decide_eq_true l0]) (s_ret (t_c (no ?_ s1)))
    have := List.length_eq_zero_iff.mp l0
    subst this
    exact shw_nums (l := []) (b := c) fun m h => nomatch h
  refine ifF (by rw [decide_eq_false l0]) (s_next ?_)
  have ne : ds ≠ [] := fun z => l0 (by rw [z]; rfl)
  have bad : ∀ {H'} (d0 : PyData), Same H1 H' → d0 ∈ ds → belowD ((R.length : Nat) : Int) d0 = false → Q (.bl false) H' := fun {H'} d0 s h e => no (by
    unfold shw
    rw [natsN_no (th := .dat (sq c ds)) hds (List.all_eq_false.mpr ⟨d0, h, by rw [e]; exact Bool.false_ne_true⟩)]) (s1.trans s)
  refine s_seq (s_if (b_not (b_val (t_cb1 (lcM c ds (fun d => d) (fun d => .bool (tInt d)) kn1 (fun Q q => t_var rfl (q _ _ (Same.refl _) (by rw [List.map_id']; exact hd1))) (by omega) (fun _ => rfl) (fun d0 hd0 z H2 S' s2 kn2 dz hS hoff Q2 q2 => ?_) fun D H2 ys hD s2 hd2 h2 => ?_)))))
  · exact ev_and (K := K) (S := S') (ev_isi (ev_var rfl dz) (kit_int d0)) (fun hk => ev_and (ev_notX (ev_var rfl dz) hk) fun _ => ev_notX (ev_var rfl dz) hk) H2 (Same.refl _) Q2 q2
  refine all_d (bs := ds.map tInt) off_sub (by rw [List.map_map]; exact h2) ⟨_, rfl, ?_⟩
  cases ea : (ds.map tInt).all id with
  | false =>
    obtain ⟨b, hb, eb⟩ := List.all_eq_false.mp ea
    obtain ⟨d0, hd0, rfl⟩ := List.mem_map.mp hb
    refine ifT rfl (s_ret (t_c (bad d0 s2 hd0 ?_)))
    cases d0 with
    | int i => exact (eb rfl).elim
    | _ => rfl
  | true =>
  refine ifF rfl (s_next ?_)
  have isint : ∀ d0 ∈ ds, ∃ i, d0 = .int i := fun d0 h => tInt_int ((List.all_eq_true.mp ea) (tInt d0) (List.mem_map.mpr ⟨d0, h, rfl⟩))
  have kn2 := kn1.same s2
  have hd2' := dp_same (off_same s2) _ _ hd1
  have dR2 := dp_same (off_same s2) _ _ dR1
  refine s_ret (t_cb1 (lcM c ds (fun d => d) (fun d => .bool (belowD ((R.length : Nat) : Int) d)) kn2 (fun Q q => t_var rfl (q _ _ (Same.refl _) (by rw [List.map_id']; exact hd2'))) (by omega) (fun _ => rfl) (fun d0 hd0 z H3 S' s3 kn3 dz hS hoff Q3 q3 => ?_) fun D3 H3 ys3 hD3 s3 hd3 h3 => ?_))
  · obtain ⟨i0, rfl⟩ := isint d0 hd0
    cases dz
    refine t_chain (t_c (t_var rfl ⟨_, _, rfl, rfl, _, rfl, if_b (fun h0 => ?_) (fun h0 => ?_)⟩))
    · refine t_cb1 (t_var rfl (len_d off_sub (dp_same hoff _ _ dR2) rfl ⟨_, _, rfl, rfl, ?_⟩))
      have bl : belowD ((R.length : Nat) : Int) (.int i0) = decide (i0 < ((R.length : Nat) : Int)) := by
        show (decide (0 ≤ i0) && decide (i0 < ((R.length : Nat) : Int))) = _
        rw [h0, Bool.true_and]
      rw [List.length_map]
      show Q3 (.bl (decide (i0 < ((R.length : Nat) : Int)))) H3
      rw [← bl]
      exact q3 _ _ (Same.refl _) (.bl _)
    · have eb : belowD ((R.length : Nat) : Int) (.int i0) = false := by
        show (decide (0 ≤ i0) && decide (i0 < ((R.length : Nat) : Int))) = _
        rw [h0, Bool.false_and]
      rw [eb] at q3
      exact q3 _ _ (Same.refl _) (.bl _)
  refine all_d (bs := ds.map (belowD ((R.length : Nat) : Int))) off_sub (by rw [List.map_map]; exact h3) ?_
  have eall : (ds.map (belowD ((R.length : Nat) : Int))).all id = shw R (sq c ds) := by
    have e1 : (ds.map (belowD ((R.length : Nat) : Int))).all id = ds.all (belowD ((R.length : Nat) : Int)) := by rw [List.all_map]; rfl
    rw [e1]
    unfold shw
    cases ea2 : ds.all (belowD ((R.length : Nat) : Int)) with
    | false => rw [natsN_no (th := .dat (sq c ds)) hds ea2]
    | true =>
      rw [natsN_yes (th := .dat (sq c ds)) hds ea2]
      simp [ne]
  rw [eall]
  exact q _ (s1.trans (s2.trans s3))
end
end K31

set_option maxRecDepth 100000
set_option maxHeartbeats 4000000
namespace K31
open PySem PySem.Spec PyProof.Rows L2 Kh
section
variable {P : Program} {w : World} {K : PySem.W.Frag} {mg : Str → Option Value} {base : Heap} {a : Nat → Addr} {fd : Nat → FuncData} {C : Addr} {tk : Nat → Tok}
theorem pick_num {S : Addr → Prop} {p : Addr} {u : V} {H : Hp} {Q : VK} {E : XK} {l : List Nat} (hS : S p) (pot : PotAt H p) (dL : Dp K (off S H) u (nL l)) (h0 : l ≠ []) (few : l.length ≤ 200)
    (q : ∀ m ∈ l, ∀ y H', SameBut p H H' → PotAt H' p → Dp K (off S H') y (nD m) → Q y H') : spPick K [.ref p, u] H Q E := by
  obtain ⟨r, xs, rfl, hs, ha⟩ := list_at (ds := l.map nD) dL
  have lx := dpa_len ha
  rw [List.length_map] at lx
  have := List.length_pos_iff.mpr h0
  refine ⟨p, r, xs, rfl, pot, fun H' sb => (off_keep hS sb).seq hs, by omega, by omega, fun d x H' hx sb pt => ?_⟩
  obtain ⟨dd, dj, dx⟩ := dpa_at ha hx
  obtain ⟨m, hj, hm, rfl⟩ := at_map dj
  exact q m hm x H' sb pt (dp_same (off_bt hS sb) _ _ dx)
/-- two drawn showers of the same values -/
def spLTwo (K : PySem.W.Frag) : Sp := fun vs H Q _ => ∃ (S : Addr → Prop) (p : Addr) (R : List (List Nat)) (vR : V), vs = [.ref p, vR] ∧ Kn S H ∧ S p ∧ PotAt H p ∧ Dp K (off S H) vR (nLL R) ∧ Tb R ∧
  ∀ (m1 m2 : List Nat) u H', SameBut p H H' → PotAt H' p → m1 ≠ [] → (∀ n ∈ m1, n < R.length) → (∀ n, n ∈ m2 ↔ n ∈ m1) → m1.length ≤ 4 → m2.length ≤ 6 → Dp K (off S H') u (.tuple [nL m1, nL m2]) → Q u H'
theorem ok__law_two (T : Txt K mg a fd C tk) : FnOk P w K mg base CX0 3 (a 36) (fd 36) ["_law_pot_here", "_law_rows"] (spLTwo K) := by
  have G__law_draw := ok__law_draw (P := P) (w := w) (base := base) T
  have G__law_pick := ok__law_pick (P := P) (w := w) (base := base) T
  have G__law_mixed := ok__law_mixed (P := P) (w := w) (base := base) T
  refine T.F__law_two.ok sc__law_two (fun vs H Q E h => by obtain ⟨_, _, _, _, rfl, _⟩ := h; rfl) (fun cdv A outer s H vs Q E hr h => ?_)
  obtain ⟨S, p, R, vR, rfl, kn, hS, pot, dR, tb, q⟩ := h
  have n1 := tb.pos
  have n7 := tb.few
  refine ⟨_, (pss_cons (ps_set (i := 2) sc__law_two.nd rfl (Or.inr rfl) (pe_lc (own := [("_law_turn", 3)]) (g := gName 3) (tt := tYes) rfl sc__law_two.nd (pi_range1 (by rfl) T.z_range (pa_cons (pe_op op_add pe_int (pe_call G__law_draw (hr.mono (by omega)) (by rfl) T.m__law_draw T.F__law_draw.kp T.b__law_draw .nil pass0 (pa_cons (pv 0) (pa_cons pe_int pa_nil)))) pa_nil)) (blkOk_by (own := [("_law_turn", 3)]) (N := _law_two_N) (sc := defScope _law_two_s) (by decide +kernel)) (fun _ _ _ _ _ => (pg_name (i := 3) sc__law_two.nd rfl (Or.inl rfl))) (fun _ _ _ _ _ => pts_nil) (fun _ _ _ _ _ => (pe_call G__law_draw (hr.mono (by omega)) (by rfl) T.m__law_draw T.F__law_draw.kp T.b__law_draw .nil pass0 (pa_cons (pv 0) (pa_cons (pe_callB (k_len (K := K)) (by rfl) T.z_len (by decide +kernel) (pa_cons (pv 1) pa_nil)) pa_nil))))))
      (pss_one (ps_ret (pe_tup (pa_cons (pe_call G__law_mixed (hr.mono (by omega)) (by rfl) T.m__law_mixed T.F__law_mixed.kp T.b__law_mixed .nil pass0 (pa_cons (pv 0) (pa_cons (pv 2) pa_nil))) (pa_cons (pe_call G__law_mixed (hr.mono (by omega)) (by rfl) T.m__law_mixed T.F__law_mixed.kp T.b__law_mixed .nil pass0 (pa_cons (pv 0) (pa_cons (pe_op (k_catS (K := K)) (pv 2) (pe_lc (own := [("_law_turn", 3)]) (g := gName 3) (tt := tYes) rfl sc__law_two.nd (pi_range1 (by rfl) T.z_range (pa_cons (pe_call G__law_draw (hr.mono (by omega)) (by rfl) T.m__law_draw T.F__law_draw.kp T.b__law_draw .nil pass0 (pa_cons (pv 0) (pa_cons pe_int pa_nil))) pa_nil)) (blkOk_by (own := [("_law_turn", 3)]) (N := _law_two_N) (sc := defScope _law_two_s) (by decide +kernel)) (fun _ _ _ _ _ => (pg_name (i := 3) sc__law_two.nd rfl (Or.inl rfl))) (fun _ _ _ _ _ => pts_nil) (fun _ _ _ _ _ => (pe_call G__law_pick (hr.mono (by omega)) (by rfl) T.m__law_pick T.F__law_pick.kp T.b__law_pick .nil pass0 (pa_cons (pv 0) (pa_cons (pv 2) pa_nil)))))) pa_nil))) pa_nil)))))), ?_⟩
  refine s_seq (s_set (lc_potR nD (K := K) (Pn := fun n => 1 ≤ n ∧ n ≤ 4) (Xp := fun _ S' H' => Dp K (off S' H') vR (nLL R)) (Good := fun n => n < R.length) hS kn (fun q' h' => ?_) (fun n h => by omega) (fun _ => rfl) (fun D H1 x hD sb => dp_same (off_plusB hS hD sb) _ _ dR) (fun x H1 S' sb pt1 kn1 hS' xp Q' q' => ?_) fun D H1 n ms sb1 pt1 hn hl good dM => nx_of ?_))
  · exact a_cons (t_op (t_c (t_call2 (t_var rfl (t_c ⟨p, 4, rfl, pot, by decide, by decide, fun d H2 hd sb pt => ⟨_, _, rfl, rfl, a_nil (by
      have := h' H2 (1 + d) sb pt ⟨by omega, by omega⟩
      show q' [.int (1 + (d : Int))] H2
      rw [show (1 : Int) + (d : Int) = ((1 + d : Nat) : Int) by omega]
      exact this)⟩⟩)))))
  · exact t_call2 (t_var rfl (t_cb1 (t_var rfl (len_d off_sub xp rfl ⟨p, _, rfl, pt1, by rw [List.length_map]; exact n1, by rw [List.length_map]; omega, fun d H2 hd sb2 pt2 => q' _ _ d sb2 pt2 (by rwa [List.length_map] at hd) (.int _)⟩))))
  have kn1 := kn_bt kn sb1 pt1.some
  have ne : ms ≠ [] := fun z => by rw [z] at hl; simp at hl; omega
  refine s_ret (t_tup (a_cons (t_call2 (t_var rfl (t_var rfl (mix_nums kn1 hS pt1 dM (by omega) fun u2 H2 m1 sb2 pt2 pm1 d2 => ?_))))))
  have sb02 := sb_trans sb1 sb2
  have kn2 := kn_bt kn sb02 pt2.some
  have dM2 := dp_same (off_bt hS sb2) _ _ dM
  refine a_cons (t_call2 (t_var rfl (t_op (t_var rfl (lc_potR nD (K := K) (Pn := fun n => n ≤ 2) (Xp := fun _ S' H' => Dp K (off S' H') (.ref D) (nL ms)) (Good := fun n => n ∈ ms) hS kn2 (fun q' h' => ?_) (fun n h => by omega) (fun _ => rfl) (fun D2 H3 x hD sb => dp_same (off_plusB hS hD sb) _ _ dM2) (fun x H3 S' sb pt3 kn3 hS' xp Q' q' => ?_) fun D3 H3 k ks sb3 pt3 hk lk goodk d3 => ?_)))))
  · exact a_cons (t_call2 (t_var rfl (t_c ⟨p, 3, rfl, pt2, by decide, by decide, fun d H3 hd sb pt => a_nil (h' H3 d sb pt (by omega))⟩)))
  · exact t_call2 (t_var rfl (t_var rfl (pick_num hS' pt3 xp ne (by omega) fun m hm y H4 sb4 pt4 d4 => q' _ _ m sb4 pt4 hm d4)))
  have sb03 := sb_trans sb02 sb3
  have kn3 := kn_bt kn sb03 pt3.some
  refine cat_d (ds := ms.map nD) (es := ks.map nD) kn3 (dp_same (off_bt hS sb3) _ _ dM2) d3 (by rw [List.length_map, List.length_map]; omega) fun u4 H4 s4 d4 => ?_
  rw [← List.map_append] at d4
  refine mix_nums (kn3.same s4) hS (pt3.same s4) d4 (by rw [List.length_append]; omega) fun u5 H5 m2 sb5 pt5 pm2 d5 => a_nil ⟨le2, fun r hr => ?_⟩
  have sb25 := sb_trans sb3 (sb_trans (sbut s4) sb5)
  have kn5 := kn_bt kn2 sb25 pt5.some
  have sr := same_new (o := HO.tup [u2, u5]) hr
  refine q m1 m2 _ _ (sb_trans sb02 (sb_trans sb25 (sbut sr))) (pt5.same sr) (fun z => ne (by rw [z] at pm1; exact pm1.symm.eq_nil)) (fun n hn => good n (pm1.mem_iff.mp hn)) (fun n => ?_) (by rw [pm1.length_eq]; omega) (by rw [pm2.length_eq, List.length_append]; omega) (dp_newT kn5 hr (.cons (dp_same (off_bt hS sb25) _ _ d2) (.cons d5 .nil)))
  rw [pm2.mem_iff, pm1.mem_iff, List.mem_append]
  exact ⟨fun h => h.elim id (goodk n), .inl⟩
end
end K31

set_option maxRecDepth 100000
set_option maxHeartbeats 1000000
/-! set(a) != set(b) of whole numbers -/
namespace Kh
open PySem PySem.Spec PyProof.Rows PySem.Builtin.Frozenset L2
section
variable {prog : Program} {w : World} {A : Around} {E : Value → Shared → Prop} {s : Shared} {a b : Addr}
theorem quiet_good {e : Int × Value} (g : GoodE e) {Q : Bool → Shared → Prop} (h : Q true s) : wpAny (model prog w) A (quietEq e.2) Q E s := by
  obtain ⟨k, tk, h1, _⟩ := g
  rw [h1]
  exact wpAny_pure h
theorem walkUnseen_loop {f : Sem (List (Int × Value))} : ∀ {l : List (Int × Value)} {Q : Option (List (Int × Value)) × Unit → Shared → Prop}, (∀ e ∈ l, GoodE e) → Q (none, ()) s →
    wpAny (model prog w) A (forIn l ((none, ()) : Option (List (Int × Value)) × Unit) fun x __s =>
        match x with
        | (fst, x) => do
          let __do_lift ← quietEq x
          if (!__do_lift) = true then do
              let __do_lift ← f
              pure (ForInStep.done (some __do_lift, ()))
            else pure (ForInStep.yield (none, ()))) Q E s
  | [], Q, _, h => wpAny_pure h
  | e :: l, Q, g, h => by
    rw [List.forIn_cons]
    refine wpAny_bind ?_
    obtain ⟨x, y⟩ := e
    refine wpAny_bind (quiet_good (g _ List.mem_cons_self) ?_)
    exact wpAny_pure (walkUnseen_loop (fun e he => g e (List.mem_cons_of_mem _ he)) h)
theorem walkUnseen_good {S T : Int → Bool} {n m : Nat} {Q : List (Int × Value) → Shared → Prop} (R1 : SetR w s.heap a S n) (R2 : SetR w s.heap b T m)
    (h : ∀ es : List (Int × Value), (∀ e ∈ es, GoodE e) → (es.map keyOf).Nodup → (∀ k, S k = true ↔ k ∈ es.map keyOf) → es.length = n → Q es s) : wpAny (model prog w) A (walkUnseen a b) Q E s := by
  obtain ⟨o, es, ep, t, ho, hex, hd, g, nd, hm, hb, hf, hn, hr, hl⟩ := R1
  obtain ⟨o2, es2, ep2, t2, ho2, hex2, hd2, g2, nd2, hm2, hb2, hf2, hn2, hr2, hl2⟩ := R2
  unfold walkUnseen
  refine wpAny_bind (wpAny_setEntries_of ho hd hf ?_)
  refine wpAny_bind (wpAny_setEntries_of ho2 hd2 hf2 ?_)
  refine wpAny_bind (walkUnseen_loop (fun e he => (List.mem_append.mp he).elim (g e) (g2 e)) ?_)
  exact wpAny_pure (h _ g nd hm (by rw [Array.length_toList]; exact hn))
theorem subset_loop {T : Int → Bool} {m ep : Nat} {id : String} {o : Obj} {es : Array (Int × Value)} {t : SetTable} (ho : s.heap.get? a = some o) (hd : o.data = .set es ep t) (hf : t.fits es.size = true) (R2 : SetR w s.heap b T m) :
    ∀ {l : List (Int × Value)} {Q : Option Bool × Unit → Shared → Prop}, (∀ e ∈ l, GoodE e) → Q (if (l.map keyOf).all T then none else some false, ()) s →
    wpAny (model prog w) A (forIn l ((none, ()) : Option Bool × Unit) fun x __s =>
            match x with
            | (h, x) => do
              let __do_lift ← holding [x] (setFind b x h)
              if __do_lift.isNone = true then pure (ForInStep.done (some false, ()))
                else do
                  unchanged id a ep
                  pure (ForInStep.yield (none, ()))) Q E s
  | [], Q, _, h => wpAny_pure h
  | e :: l, Q, g, h => by
    rw [List.forIn_cons]
    obtain ⟨x, y⟩ := e
    obtain ⟨k, tk, h1, h2⟩ := g _ List.mem_cons_self
    have hk : keyOf (x, y) = k := by unfold keyOf; rw [h1]
    dsimp only at h1 h2
    subst h1 h2
    rw [List.map_cons, List.all_cons, hk] at h
    refine wpAny_bind (wpAny_bind (wpAny_holding (wpAny_setFind_of (knd := intKind prog w) (k := k) (intKind_is _ _ _ _) rfl R2.setOf fun r hr => ?_)))
    cases r with
    | none =>
      have e : T k = false := hr.symm
      rw [e, Bool.false_and] at h
      exact wpAny_pure (wpAny_pure h)
    | some j =>
      have e : T k = true := hr.symm
      rw [e, Bool.true_and] at h
      refine wpAny_bind ?_
      unfold unchanged
      refine wpAny_bind (wpAny_setEpoch_of ho hd hf ?_)
      rw [bne_self_eq_false, if_neg Bool.false_ne_true]
      refine wpAny_pure (wpAny_pure ?_)
      exact subset_loop ho hd hf R2 (fun e he => g e (List.mem_cons_of_mem _ he)) h
theorem entry_set_ne : entryFor table "set.__ne__" = some Builtin.«frozenset.__ne__» :=
  entryFor_alias (id' := "frozenset.__ne__") (by kernel_rfl) rfl (by decide +kernel) (by kernel_rfl)
theorem subset_good {S T : Int → Bool} {n m : Nat} {id : String} {Q : Bool → Shared → Prop} (R1 : SetR w s.heap a S n) (R2 : SetR w s.heap b T m) (hnm : n = m)
    (h : ∀ v : Bool, (v = true ↔ ∀ k, S k = T k) → Q v s) : wpAny (model prog w) A (subsetOf id a b) Q E s := by
  have R1' := R1
  have R2' := R2
  obtain ⟨o, es, ep, t, ho, hex, hd, g, nd, hm, hb, hf, hn, hr, hl⟩ := R1
  obtain ⟨o2, es2, ep2, t2, ho2, hex2, hd2, g2, nd2, hm2, hb2, hf2, hn2, hr2, hl2⟩ := R2
  unfold subsetOf Builtin.Frozenset.sizeOf
  refine wpAny_bind (wpAny_bind (wpAny_setEntries_of ho hd hf (wpAny_pure ?_)))
  refine wpAny_bind (wpAny_bind (wpAny_setEntries_of ho2 hd2 hf2 (wpAny_pure ?_)))
  rw [if_neg (by omega)]
  refine wpAny_bind (wpAny_setEpoch_of ho hd hf ?_)
  refine wpAny_bind (walkUnseen_good R1' R2' fun l gl nl ml ll => ?_)
  refine wpAny_bind (subset_loop ho hd hf R2' gl ?_)
  have key : ((l.map keyOf).all T = true) ↔ ∀ k, S k = T k := by
    rw [List.all_eq_true]
    constructor
    · intro h1 k
      have i1 : S k = true → T k = true := fun e => h1 k ((ml k).mp e)
      have i2 : T k = true → S k = true := fun e => by
        apply Classical.byContradiction
        intro hS
        have hno : k ∉ l.map keyOf := fun z => hS ((ml k).mpr z)
        have := sub_len (ns := k :: l.map keyOf) (ks := es2.toList.map keyOf) (List.nodup_cons.mpr ⟨hno, nl⟩) fun x hx => by
          rcases List.mem_cons.mp hx with rfl | z
          · exact (hm2 _).mp e
          · exact (hm2 _).mp (h1 x z)
        rw [List.length_cons, List.length_map, List.length_map, Array.length_toList (xs := es2)] at this
        omega
      cases hS : S k with
      | true => exact (i1 hS).symm
      | false =>
        cases hT : T k with
        | false => rfl
        | true => rw [i2 hT] at hS; cases hS
    · intro h1 k hk
      rw [← h1 k]
      exact (ml k).mpr hk
  cases ea : (l.map keyOf).all T with
  | true => exact wpAny_pure (h true (by rw [← key, ea]))
  | false => exact wpAny_pure (h false (by rw [← key, ea]))
theorem wpAny_neSets {S T : Int → Bool} {n m : Nat} {Q : Value → Shared → Prop} (R1 : SetR w s.heap a S n) (R2 : SetR w s.heap b T m) (hu : A.units < cLine)
    (h : ∀ v : Bool, (v = true ↔ ∀ k, S k = T k) → Q (.bool (!v)) s) : wpAny (model prog w) A (compareOp .NotEq (.ref a) (.ref b)) Q E s := by
  have R1' := R1
  have R2' := R2
  obtain ⟨o, es, ep, t, ho, hex, hd, g, nd, hm, hb, hf, hn, hr, hl⟩ := R1
  obtain ⟨o2, es2, ep2, t2, ho2, hex2, hd2, g2, nd2, hm2, hb2, hf2, hn2, hr2, hl2⟩ := R2
  have h1 : s.TypeIs (.ref a) "set" := ⟨o, ho, hex.1⟩
  have h2 : s.TypeIs (.ref b) "set" := ⟨o2, ho2, hex2.1⟩
  show wpAny _ _ (richCompare .NotEq _ _) _ _ _
  refine wpAny_richCompare_same_room h1 h2 F.slot_set_ne (wpAny_call_entry F.slot_set_ne h1 entry_set_ne ?_ (F.args_set_ne_2 _ _)) hu
  unfold Builtin.«frozenset.__ne__»
  refine wpAny_bind (m := slot1 "__ne__" _) ?_
  refine wpAny_bind (m := slotArgs "__ne__" 1 _) (wpAny_pure ?_)
  refine wpAny_pure ?_
  dsimp only
  refine wpAny_bind ?_
  unfold isAnySet orM
  refine wpAny_bind (wpAny_isInstance h2 F.sub_set_set (wpAny_pure ?_))
  rw [Bool.not_true, if_neg Bool.false_ne_true]
  unfold addrOf
  refine wpAny_bind (wpAny_pure ?_)
  refine wpAny_bind (wpAny_pure ?_)
  unfold Builtin.Frozenset.sizeOf
  refine wpAny_bind (wpAny_bind (wpAny_setEntries_of ho hd hf (wpAny_pure ?_)))
  refine wpAny_bind (wpAny_bind (wpAny_setEntries_of ho2 hd2 hf2 (wpAny_pure ?_)))
  refine wpAny_bind ?_
  by_cases hnm : n = m
  · have e : (es.size != es2.size) = false := by rw [hn, hn2, hnm]; exact bne_self_eq_false _
    rw [e, if_neg Bool.false_ne_true]
    unfold andM
    refine wpAny_bind (wpAny_bind (wpAny_isInstance h1 F.sub_set_frozenset (wpAny_pure ?_)))
    rw [if_neg Bool.false_ne_true]
    refine subset_good R1' R2' hnm fun v hv => ?_
    refine wpAny_pure ?_
    exact ⟨_, rfl, ⟨fun z => (nomatch z), h v hv⟩⟩
  · have e : (es.size != es2.size) = true := by rw [hn, hn2]; simpa using hnm
    rw [e, if_pos rfl]
    refine wpAny_pure (wpAny_pure ⟨_, rfl, ⟨fun z => (nomatch z), h false ⟨fun z => (nomatch z), fun z => (hnm ?_).elim⟩⟩⟩)
    have l1 := sub_len (ns := es.toList.map keyOf) (ks := es2.toList.map keyOf) nd fun k hk => (hm2 k).mp (by rw [← z k]; exact (hm k).mpr hk)
    have l2 := sub_len (ns := es2.toList.map keyOf) (ks := es.toList.map keyOf) nd2 fun k hk => (hm k).mp (by rw [z k]; exact (hm2 k).mpr hk)
    rw [List.length_map, List.length_map, Array.length_toList, Array.length_toList] at l1
    rw [List.length_map, List.length_map, Array.length_toList, Array.length_toList] at l2
    omega
end
def rNeSet (w : World) : R2 := fun x y H Q => ∃ (a b : Addr) (S T : Int → Bool) (n m : Nat), x = .ref a ∧ y = .ref b ∧ H a = some (SetO w a S n) ∧ H b = some (SetO w b T m) ∧
  ∀ v : Bool, (v = true ↔ ∀ k, S k = T k) → Q (.bl (!v)) H
theorem op_neSet {X : Cx} (hu : X.A.units + 64 < cLine) : OpR X (compareOp .NotEq) (rNeSet X.w) := by
  intro pins s σ H x y v u Q I rx ry h
  obtain ⟨a, b, S, T, n, m, rfl, rfl, h1, h2, q⟩ := h
  cases rx
  cases ry
  exact wpAny_neSets (setO_get I h1) (setO_get I h2) (by omega) fun z hz => ⟨.bl (!z), H, I, rfl, q z hz⟩
theorem k_neSet {X : Cx} {w : World} (hu : X.A.units + 64 < cLine) (h : X.w = w := by rfl) : OpR X (compareOp .NotEq) (rNeSet w) := by subst h; exact op_neSet hu
end Kh

set_option maxRecDepth 100000
set_option maxHeartbeats 4000000
namespace K31
open PySem PySem.Spec PyProof.Rows L2 Kh
/-- set(a) != set(b) of two told lists -/
theorem ne_sets {K : PySem.W.Frag} {w : World} {S : Addr → Prop} {H : Hp} {u v : V} {b c : Bool} {l m : List Nat} {σ : L2.St} {j : Nat} {Q : VK} (hj : σ[j]? = some (some v)) (kn : Kn S H) (d1 : Dp K (off S H) u (sq b (l.map nD))) (d2 : Dp K (off S H) v (sq c (m.map nD))) (f1 : l.length ≤ 1000) (f2 : m.length ≤ 1000)
    (q : ∀ (z : Bool) H', Same H H' → (z = true ↔ ∀ n, n ∈ l ↔ n ∈ m) → Q (.bl (!z)) H') : rSetSq K w [u] H fun x H1 => tCB (rSetSq K w) (tCons (tVar j) tNil) σ H1 fun y H2 => rNeSet w x y H2 Q := by
  obtain ⟨r, xs, rfl, hs, ha⟩ := items_at d1 (items_sq b _)
  have ex := dpa_ints (ns := l.map fun m : Nat => ((m : Nat) : Int)) (by rw [← nD_map]; exact ha)
  subst ex
  refine ⟨r, l.map fun m : Nat => ((m : Nat) : Int), rfl, hs.imp (fun z => off_sub.seq z) (fun z => same_t off_sub z), by rw [List.length_map]; omega, fun p n hp hn => ?_⟩
  have s1 := same_new (o := SetO w p (fun j => decide (j ∈ l.map fun m : Nat => ((m : Nat) : Int))) n) hp
  refine t_cb1 (t_var hj ?_)
  obtain ⟨r2, xs2, rfl, hs2, ha2⟩ := items_at (dp_same (off_same s1) _ _ d2) (items_sq c _)
  have ex2 := dpa_ints (ns := m.map fun m : Nat => ((m : Nat) : Int)) (by rw [← nD_map]; exact ha2)
  subst ex2
  refine ⟨r2, m.map fun m : Nat => ((m : Nat) : Int), rfl, hs2.imp (fun z => off_sub.seq z) (fun z => same_t off_sub z), by rw [List.length_map]; omega, fun p2 n2 hp2 hn2 => ?_⟩
  have s2 := same_new (o := SetO w p2 (fun j => decide (j ∈ m.map fun m : Nat => ((m : Nat) : Int))) n2) hp2
  have mem : ∀ (l : List Nat) (k : Int), k ∈ (l.map fun m : Nat => ((m : Nat) : Int)) ↔ ∃ n : Nat, n ∈ l ∧ k = (n : Int) := fun l k => by
    rw [List.mem_map]
    exact ⟨fun ⟨n, h, e⟩ => ⟨n, h, e.symm⟩, fun ⟨n, h, e⟩ => ⟨n, h, e.symm⟩⟩
  have memN : ∀ (l : List Nat) (n : Nat), (((n : Nat) : Int) ∈ (l.map fun m : Nat => ((m : Nat) : Int))) ↔ n ∈ l := fun l n => by
    rw [mem]
    exact ⟨fun ⟨k, h, e⟩ => by rw [show n = k by omega]; exact h, fun h => ⟨n, h, rfl⟩⟩
  refine ⟨p, p2, _, _, n, n2, rfl, rfl, s2 _ _ upd_same, upd_same, fun z hz => q z _ (s1.trans s2) (hz.trans ⟨fun h k => ?_, fun h k => ?_⟩)⟩
  · have := h (k : Nat)
    rw [decide_eq_decide, memN, memN] at this
    exact this
  · rw [decide_eq_decide, mem, mem]
    exact ⟨fun ⟨n, h1, e⟩ => ⟨n, (h n).mp h1, e⟩, fun ⟨n, h1, e⟩ => ⟨n, (h n).mpr h1, e⟩⟩
section
variable {P : Program} {w : World} {K : PySem.W.Frag} {mg : Str → Option Value} {base : Heap} {a : Nat → Addr} {fd : Nat → FuncData} {C : Addr} {tk : Nat → Tok}
def spLUn (K : PySem.W.Frag) : Sp := fun vs H Q _ => ∃ (S : Addr → Prop) (R : List (List Nat)) (vR : V) (th : List Nat) (vT : V) (d : PyData) (z : V), vs = [vR, .int (clh R : Nat), vT, z] ∧ Kn S H ∧ Dp K (off S H) vR (nLL R) ∧ Tb R ∧ Dp K (off S H) vT (nL th) ∧ (∀ n ∈ th, n < R.length) ∧ th.Nodup ∧ Dp K (off S H) z d ∧
  (∀ d1 d2 dx ds, d = .tuple [d1, d2] → (dx = d1 ∨ dx = d2) → items dx = some ds → ds.length ≤ 60) ∧ ∀ H', Same H H' → Q (.bl (ush R th d)) H'
theorem ok__law_are_unlike (T : Txt K mg a fd C tk) : FnOk P w K mg base CX0 2 (a 35) (fd 35) ["_law_rows", "_law_clash", "_law_thresholds", "_law_thing"] (spLUn K) := by
  have G__law_join := ok__law_join (P := P) (w := w) (base := base) T
  have G__law_read := ok__law_read (P := P) (w := w) (base := base) T
  have G__law_is_shower := ok__law_is_shower (P := P) (w := w) (base := base) T
  refine T.F__law_are_unlike.ok sc__law_are_unlike (fun vs H Q E h => by obtain ⟨_, _, _, _, _, _, _, rfl, _⟩ := h; rfl) (fun cdv A outer s H vs Q E hr h => ?_)
  obtain ⟨S, R, vR, th, vT, d, z, rfl, kn, dR, tb, dT, tlt, tnd, hd, few, q⟩ := h
  have n7 := tb.few
  refine ⟨_, (pss_cons (ps_if (PW.pt (pw_or (pt_not (pt_val (pe_callB (k_isi (K := K)) (by rfl) T.z_isinstance (by decide +kernel) (pa_cons (pv 3) (pa_cons (pe_bltn (v := .ty "tuple") (by rfl) T.z_tuple (by decide +kernel) rfl) pa_nil))))) (pw_or (pt_cmpR op_ne (pe_callB (k_len (K := K)) (by rfl) T.z_len (by decide +kernel) (pa_cons (pv 3) pa_nil)) pe_int (nomark _)) (pw_or1 (pt_not (pt_val (pe_callB (k_all (K := K) rfl) (by rfl) T.z_all (by decide +kernel) (pa_cons (pe_lc (own := [("_law_part", 6)]) (g := gName 6) (tt := tYes) rfl sc__law_are_unlike.nd (k_pi (K := K) (pv 3)) (blkOk_by (own := [("_law_part", 6)]) (N := _law_are_unlike_N) (sc := defScope _law_are_unlike_s) (by decide +kernel)) (fun _ _ _ _ _ => (pg_name (i := 6) sc__law_are_unlike.nd rfl (Or.inl rfl))) (fun _ _ _ _ _ => pts_nil) (fun _ _ _ _ _ => (pe_call G__law_is_shower (hr.mono (by omega)) (by rfl) T.m__law_is_shower T.F__law_is_shower.kp T.b__law_is_shower .nil pass0 (pa_cons (pv 0) (pa_cons (pv 6) pa_nil))))) pa_nil))))))))
        (pss_one (ps_ret pe_bl)) pss_nil)
      (pss_cons (ps_par (i := 4) (j := 5) (by rfl) sc__law_are_unlike.nd rfl rfl (by decide) rfl rfl (pa_cons (pe_callTy (k_list (K := K)) (by rfl) T.z_list (by decide +kernel) (pa_cons (pe_ix (k_ix (K := K)) (pv 3) pe_int (fun _ _ => rfl)) pa_nil)) (pa_cons (pe_callTy (k_list (K := K)) (by rfl) T.z_list (by decide +kernel) (pa_cons (pe_ix (k_ix (K := K)) (pv 3) pe_int (fun _ _ => rfl)) pa_nil)) pa_nil)) (by rfl))
      (pss_cons (ps_if (PW.pt (pw_or (pt_cmpR (k_neSet (w := w) hr.units) (pe_callTy (k_setSq (K := K) (w := w) rfl) (by rfl) T.z_set (by decide +kernel) (pa_cons (pv 4) pa_nil)) (pe_callTy (k_setSq (K := K) (w := w) rfl) (by rfl) T.z_set (by decide +kernel) (pa_cons (pv 5) pa_nil)) (nomark _)) (pw_or1 (pt_cmpR op_eq (pe_call G__law_join (hr.mono (by omega)) (by rfl) T.m__law_join T.F__law_join.kp T.b__law_join .nil pass0 (pa_cons (pv 0) (pa_cons (pv 4) pa_nil))) (pv 1) (nomark _)))))
        (pss_one (ps_ret pe_bl)) pss_nil)
      (pss_one (ps_ret (pe_cmpR (k_neD (K := K) hr.units) (pe_call G__law_read (hr.mono (by omega)) (by rfl) T.m__law_read T.F__law_read.kp T.b__law_read .nil pass0 (pa_cons (pv 0) (pa_cons (pv 2) (pa_cons (pv 4) pa_nil)))) (pe_call G__law_read (hr.mono (by omega)) (by rfl) T.m__law_read T.F__law_read.kp T.b__law_read .nil pass0 (pa_cons (pv 0) (pa_cons (pv 2) (pa_cons (pv 5) pa_nil)))) (nomark _))))))), ?_⟩
  refine s_seq (s_if (b_or (b_not (b_val (t_cb2 (t_var rfl (t_c (isi_d off_sub hd (kit_tup d) ⟨_, rfl, ?_⟩))))))))
  cases ek : kTup d with
  | false =>
    refine ifT rfl (ifT rfl (s_ret (t_c ?_)))
    rw [ush_not fun d1 d2 e => by rw [e] at ek; cases ek] at q
    exact q H (Same.refl _)
  | true =>
  obtain ⟨ds, rfl⟩ := ktup_of ek
  refine ifF rfl (b_or (b_test (t_op (t_cb1 (t_var rfl (len_d off_sub hd rfl (t_c ⟨rfl, _, rfl, ?_⟩)))))))
  have el : decide (V.int ((ds.length : Nat) : Int) = V.int 2) = decide (ds.length = 2) := dec_int ds.length 2
  rw [el]
  by_cases l2 : ds.length = 2
  case neg =>
    refine ifT (by rw [decide_eq_false l2]; rfl) (ifT rfl (s_ret (t_c ?_)))
    rw [ush_not fun d1 d2 e => by cases e; exact l2 rfl] at q
    exact q H (Same.refl _)
  refine ifF (by rw [decide_eq_true l2]; rfl) ?_
  obtain ⟨d1, d2, rfl⟩ : ∃ d1 d2, ds = [d1, d2] := by
    match ds, l2 with
    | [d1, d2], _ => exact ⟨d1, d2, rfl⟩
  have f1 : ∀ ds, items d1 = some ds → ds.length ≤ 60 := fun es e => few d1 d2 d1 es rfl (.inl rfl) e
  have f2 : ∀ ds, items d2 = some ds → ds.length ≤ 60 := fun es e => few d1 d2 d2 es rfl (.inr rfl) e
  have no : ∀ {H'}, Same H H' → ush R th (.tuple [d1, d2]) = false → Q (.bl false) H' := fun {H'} s e => by
    rw [e] at q
    exact q H' s
  refine b_not (b_val (t_cb1 (lcM true [d1, d2] (fun d => d) (fun d => .bool (shw R d)) kn (fun Q q => t_var rfl (q _ _ (Same.refl _) hd)) (show 2 ≤ 100000 by decide) (fun _ => rfl) (fun d0 hd0 y H2 S' s2 kn2 dy hS hoff Q2 q2 => ?_) fun D H2 ys hD s2 hd2 h2 => ?_)))
  · refine t_call2 (t_var rfl (t_var rfl ⟨S', R, vR, d0, y, rfl, kn2, dp_same hoff _ _ dR, dy, fun es e => ?_, fun H3 s3 => q2 _ H3 s3 (.bl _)⟩))
    simp only [List.mem_cons, List.not_mem_nil, or_false] at hd0
    have : es.length ≤ 60 := by
      rcases hd0 with rfl | rfl
      · exact f1 es e
      · exact f2 es e
    omega
  refine all_d (bs := [shw R d1, shw R d2]) off_sub h2 ⟨_, rfl, ?_⟩
  have e0 : ([shw R d1, shw R d2].all id) = (shw R d1 && shw R d2) := by simp
  rw [e0]
  cases b12 : (shw R d1 && shw R d2) with
  | false => exact ifT rfl (s_ret (t_c (no s2 (by unfold ush; simp only; rw [b12]; rfl))))
  | true =>
  refine ifF rfl (s_next ?_)
  obtain ⟨b1, b2⟩ := Bool.and_eq_true_iff.mp b12
  obtain ⟨c1, n1, rfl, ne1, lt1⟩ := shw_some b1
  obtain ⟨c2, n2, rfl, ne2, lt2⟩ := shw_some b2
  have eu : ush R th (.tuple [sq c1 (n1.map nD), sq c2 (n2.map nD)]) = uls R th n1 n2 := by
    unfold ush
    simp only
    rw [b1, b2, natsN_nums lt1, natsN_nums lt2]
    simp
  rw [eu] at q
  clear no eu
  have l1 : n1.length ≤ 60 := by have := f1 _ (items_sq c1 _); rwa [List.length_map] at this
  have l2' : n2.length ≤ 60 := by have := f2 _ (items_sq c2 _); rwa [List.length_map] at this
  have kn2 := kn.same s2
  have hd2' := dp_same (off_same s2) _ _ hd
  refine s_seq (a_cons (ev_list (K := K) (S := S) (ds := n1.map nD) kn2 (ev_ix (i := 0) (ev_var rfl hd2') rfl (ev_int 0) rfl) (items_sq c1 _) H2 (Same.refl _) _ fun y1 H3 s3 d3 => a_cons (ev_list (K := K) (S := S) (ds := n2.map nD) (kn2.same s3) (ev_ix (i := 1) (ev_var rfl (dp_same (off_same s3) _ _ hd2')) rfl (ev_int 1) rfl) (items_sq c2 _) H3 (Same.refl _) _ fun y2 H4 s4 d4 => a_nil ⟨_, _, rfl, nx_of ?_⟩)))
  have s24 := s3.trans s4
  have s04 := s2.trans s24
  have kn4 := kn.same s04
  replace d3 : Dp K (off S H4) y1 (nL n1) := dp_same (off_same s4) _ _ d3
  replace d4 : Dp K (off S H4) y2 (nL n2) := d4
  have dR4 := dp_same (off_same s04) _ _ dR
  have dT4 := dp_same (off_same s04) _ _ dT
  refine s_seq (s_if (b_or (b_test (t_op (t_cb1 (t_var rfl (ne_sets (b := false) (c := false) (l := n1) (m := n2) (j := 5) rfl kn4 d3 d4 (by omega) (by omega) fun zz H5 s5 hz => ?_)))))))
  have s05 := s04.trans s5
  have euq : decide (uq n1 = uq n2) = zz := by
    have h := uq_iff (l := n1) (m := n2) (fun n hn => by have := lt1 n hn; omega) (fun n hn => by have := lt2 n hn; omega)
    rw [← hz] at h
    cases zz with
    | true => exact decide_eq_true (h.mpr rfl)
    | false => exact decide_eq_false fun e => nomatch h.mp e
  refine ⟨_, rfl, if_b (fun c => ifT rfl (s_ret (t_c ?_))) (fun c => ?_)⟩
  · have e : uls R th n1 n2 = false := by
      unfold uls
      rw [euq]
      rw [Bool.not_eq_true'] at c
      rw [c]; rfl
    rw [e] at q
    exact q _ s05
  have ez : zz = true := by simpa using c
  rw [ez] at euq
  clear hz c ez
  have kn5 := kn.same s05
  have d35 := dp_same (off_same s5) _ _ d3
  have d45 := dp_same (off_same s5) _ _ d4
  refine et_eqn (K := K) (S := S) (n := jn R n1) (m := clh R) (ev_call (enc := fun x : List (List Nat) × List Nat => [nLL x.1, nL x.2]) (pre := fun x => Tb x.1 ∧ x.2 ≠ [] ∧ (∀ n ∈ x.2, n < x.1.length) ∧ x.2.length ≤ 1000) (f := fun x => nD (jn x.1 x.2)) (R, n1) kn5 (ea_cons (ev_var rfl (dp_same (off_same s5) _ _ dR4)) (ea_cons (ev_var rfl d35) ea_nil)) ⟨tb, ne1, lt1, by show n1.length ≤ 1000; omega⟩) (ev_var rfl (.int _)) H5 (Same.refl _) _ fun H6 s6 => ?_
  have s06 := s05.trans s6
  refine if_b (fun cj => ?_) (fun cj => s_next ?_)
  · have e : uls R th n1 n2 = false := by unfold uls; rw [cj]; simp
    rw [e] at q
    exact s_ret (t_c (q _ s06))
  have eq : uls R th n1 n2 = !decide (fr R th n1 = fr R th n2) := by unfold uls; rw [euq, cj]; rfl
  rw [eq] at q
  have kn6 := kn.same s06
  have dR6 := dp_same (off_same s06) _ _ dR
  have dT6 := dp_same (off_same s06) _ _ dT
  have d36 := dp_same (off_same s6) _ _ d35
  have d46 := dp_same (off_same s6) _ _ d45
  exact s_ret (t_op (ev_call (K := K) (S := S) (enc := eLR) (f := fun x => frD (fr x.1 x.2.1 x.2.2)) (R, th, n1) kn6 (ea_cons (ev_var rfl dR6) (ea_cons (ev_var rfl dT6) (ea_cons (ev_var rfl d36) ea_nil))) ⟨tb, tlt, tnd, ne1, lt1, by show n1.length ≤ 1000; omega⟩ H6 (Same.refl _) _ fun u7 H7 s7 d7 => ev_call (K := K) (S := S) (enc := eLR) (f := fun x => frD (fr x.1 x.2.1 x.2.2)) (R, th, n2) (kn6.same s7) (ea_cons (ev_var rfl (dp_same (off_same s7) _ _ dR6)) (ea_cons (ev_var rfl (dp_same (off_same s7) _ _ dT6)) (ea_cons (ev_var rfl (dp_same (off_same s7) _ _ d46)) ea_nil))) ⟨tb, tlt, tnd, ne2, lt2, by show n2.length ≤ 1000; omega⟩ H7 (Same.refl _) _ fun u8 H8 s8 d8 => ne_frD (dp_same (off_same s8) _ _ d7) d8 (q _ (s06.trans (s7.trans s8)))))
end
end K31

set_option maxRecDepth 100000
set_option maxHeartbeats 4000000
namespace K31
open PySem PySem.Spec PyProof.Rows L2 Kh
theorem frmB_snoc {R : List (List Nat)} (me : Melts R) {l : List Nat} {n : Nat} (hl : ∀ m ∈ l, m < R.length) (hn : n < R.length) (no : n ∉ l) : frmB R (l ++ [n]) = (frmB R l && l.all fun m => decide (at_ R n m = clh R)) := by
  rw [Bool.eq_iff_iff, Bool.and_eq_true, ← frmB_iff, ← frmB_iff, List.all_eq_true]
  constructor
  · intro h
    exact ⟨fun a b ha hb ne => h a b (List.mem_append_left _ ha) (List.mem_append_left _ hb) ne, fun m hm => decide_eq_true (h n m (by simp) (List.mem_append_left _ hm) fun e => no (e ▸ hm))⟩
  · rintro ⟨h1, h2⟩ a b ha hb ne
    rw [List.mem_append, List.mem_singleton] at ha hb
    rcases ha with ha | rfl
    · rcases hb with hb | rfl
      · exact h1 a b ha hb ne
      · rw [me.comm a b (hl a ha) hn]; exact of_decide_eq_true (h2 a ha)
    · rcases hb with hb | rfl
      · exact of_decide_eq_true (h2 b hb)
      · exact (ne rfl).elim
theorem frmB_rev {R : List (List Nat)} {th : List Nat} : frmB R th.reverse = frmB R th := by
  rw [Bool.eq_iff_iff, ← frmB_iff, ← frmB_iff]
  unfold firm
  constructor
  · intro h a b ha hb; exact h a b (List.mem_reverse.mpr ha) (List.mem_reverse.mpr hb)
  · intro h a b ha hb; exact h a b (List.mem_reverse.mp ha) (List.mem_reverse.mp hb)
theorem inn_iff {R : List (List Nat)} {th : List Nat} {s n : Nat} : n ∈ inn R th s ↔ n ∈ th ∧ at_ R n s = s := by
  unfold inn
  rw [(List.mergeSort_perm _ _).mem_iff, List.mem_filter, decide_eq_true_eq]
theorem fr_first {R : List (List Nat)} (me : Melts R) {th : List Nat} {a b : Nat} (ha : a ∈ th) (la : a < R.length) : fr R th [a, b] = some (inn R th a) := by
  have e : fj R [a, b] (0 + 1) = a := me.idem a la
  have h := fr_some (R := R) (th := th) (sh := [a, b]) (i := 0) (by simp) (by
    rw [e]
    intro z
    have : a ∈ inn R th a := inn_iff.mpr ⟨ha, me.idem a la⟩
    rw [z] at this; cases this) fun j h => by omega
  rw [e] at h
  exact h
theorem uls_two {R : List (List Nat)} (me : Melts R) {th : List Nat} {a b : Nat} (tlt : ∀ n ∈ th, n < R.length) (ha : a ∈ th) (hb : b ∈ th) (ne : a ≠ b) (nc : at_ R a b ≠ clh R) : uls R th [a, b] [b, a] = true := by
  have la := tlt a ha
  have lb := tlt b hb
  have e1 : uq [a, b] = uq [b, a] := uq_same fun n => by simp [or_comm]
  have e2 : jn R [a, b] = at_ R a b := rfl
  unfold uls
  rw [decide_eq_true e1, e2, decide_eq_false nc, fr_first me ha la, fr_first me hb lb]
  have : some (inn R th a) ≠ some (inn R th b) := fun e => ne (by
    have e := Option.some.inj e
    have h1 : a ∈ inn R th b := by rw [← e]; exact inn_iff.mpr ⟨ha, me.idem a la⟩
    have h2 : b ∈ inn R th a := by rw [e]; exact inn_iff.mpr ⟨hb, me.idem b lb⟩
    exact anti me la lb (inn_iff.mp h1).2 (inn_iff.mp h2).2)
  rw [decide_eq_false this]; rfl
theorem ush_nums {R : List (List Nat)} {th l m : List Nat} {b c : Bool} (hl : ∀ n ∈ l, n < R.length) (hm : ∀ n ∈ m, n < R.length) (nl : l ≠ []) (nm : m ≠ []) : ush R th (.tuple [sq b (l.map nD), sq c (m.map nD)]) = uls R th l m := by
  unfold ush
  simp only
  rw [shw_nums hl, shw_nums hm, natsN_nums hl, natsN_nums hm]
  simp [nl, nm]
theorem ush_two {R : List (List Nat)} (me : Melts R) {th : List Nat} {a b : Nat} (tlt : ∀ n ∈ th, n < R.length) (ha : a ∈ th) (hb : b ∈ th) (ne : a ≠ b) (nc : at_ R a b ≠ clh R) : ush R th (.tuple [nL [a, b], nL [b, a]]) = true := by
  have la := tlt a ha
  have lb := tlt b hb
  have h := ush_nums (R := R) (th := th) (l := [a, b]) (m := [b, a]) (b := false) (c := false) (fun n hn => by simp at hn; rcases hn with rfl | rfl <;> assumption) (fun n hn => by simp at hn; rcases hn with rfl | rfl <;> assumption) (by simp) (by simp)
  exact h.trans (uls_two me tlt ha hb ne nc)
theorem le_tr {R : List (List Nat)} (me : Melts R) {x y z : Nat} (hx : x < R.length) (hy : y < R.length) (hz : z < R.length) (h1 : at_ R x y = y) (h2 : at_ R y z = z) : at_ R x z = z := by
  have := me.assoc x y z hx hy hz
  rw [h1, h2] at this
  exact this.symm
theorem find_same {α : Type} {p : α → Bool} {l : List α} {c : α} (h1 : ∀ x ∈ l, p x = true → x = c) (h2 : ∃ x ∈ l, p x = true) : l.find? p = some c := by
  cases e : l.find? p with
  | none =>
    obtain ⟨x, hx, hp⟩ := h2
    exact (List.find?_eq_none.mp e x hx hp).elim
  | some y => rw [h1 y (List.mem_of_find?_eq_some e) (List.find?_some e)]
/-- firm thresholds: all that is read of values whose join is no clash is told by the join -/
theorem fr_firm {R : List (List Nat)} (tb : Tb R) (me : Melts R) {th n : List Nat} (f : firm R th) (tlt : ∀ n ∈ th, n < R.length) (ne : n ≠ []) (lt : ∀ m ∈ n, m < R.length) (nc : jn R n ≠ clh R) :
    (inn R th (jn R n) = [] → fr R th n = none) ∧ (inn R th (jn R n) ≠ [] → fr R th n = some (inn R th (jn R n))) := by
  have jl := jn_lt tb ne lt
  have rl : ∀ m ∈ List.range R.length, m < R.length := fun m hm => List.mem_range.mp hm
  have rn : List.range R.length ≠ [] := fun e => by
    have := tb.pos
    have h : (List.range R.length).length = 0 := by rw [e]; rfl
    rw [List.length_range] at h
    omega
  have cl : clh R < R.length := jn_lt tb rn rl
  have fl : ∀ i, fj R n i < R.length := fj_lt tb ne lt
  have up : ∀ i, at_ R (fj R n i) (jn R n) = jn R n := fun i => by
    obtain ⟨v, r, rfl⟩ : ∃ v r, n = v :: r := by cases n with | nil => exact (ne rfl).elim | cons v r => exact ⟨v, r, rfl⟩
    exact jn_least (l := v :: (v :: r).take i) tb me (fun z => nomatch z) (fun m hm => by
      rcases List.mem_cons.mp hm with rfl | h
      · exact lt _ List.mem_cons_self
      · exact lt m (List.mem_of_mem_take h)) jl fun x hx => jn_up tb me lt x (by
      rcases List.mem_cons.mp hx with rfl | h
      · exact List.mem_cons_self
      · exact List.mem_of_mem_take h)
  have one : ∀ v u, v ∈ th → u ∈ th → at_ R v (jn R n) = jn R n → at_ R u (jn R n) = jn R n → v = u := fun v u hv hu h1 h2 => by
    apply Classical.byContradiction
    intro c
    have e := f v u hv hu c
    have h3 := me.assoc v u (jn R n) (tlt v hv) (tlt u hu) jl
    rw [e, h2, h1] at h3
    have h4 : at_ R (jn R n) (clh R) = clh R := jn_up tb me rl (jn R n) (List.mem_range.mpr jl)
    exact nc (anti me jl cl h4 h3)
  have le : ∀ i v, v ∈ inn R th (fj R n i) → v ∈ inn R th (jn R n) := fun i v hv => by
    obtain ⟨h1, h2⟩ := inn_iff.mp hv
    exact inn_iff.mpr ⟨h1, le_tr me (tlt v h1) (fl i) jl h2 (up i)⟩
  constructor
  · intro e
    refine fr_none fun i _ => ?_
    cases c : inn R th (fj R n (i + 1)) with
    | nil => rfl
    | cons v r =>
      have := le (i + 1) v (by rw [c]; exact List.mem_cons_self)
      rw [e] at this; cases this
  · intro e
    refine find_same (fun x hx px => ?_) ⟨inn R th (jn R n), ?_, by rw [decide_eq_false e]; rfl⟩
    · obtain ⟨i, hi, rfl⟩ := List.mem_map.mp hx
      have nx : inn R th (fj R n (i + 1)) ≠ [] := by simpa using px
      obtain ⟨u, hu⟩ := List.exists_mem_of_ne_nil _ nx
      obtain ⟨u1, u2⟩ := inn_iff.mp hu
      have uj := inn_iff.mp (le _ u hu)
      have : th.filter (fun v => decide (at_ R v (fj R n (i + 1)) = fj R n (i + 1))) = th.filter fun v => decide (at_ R v (jn R n) = jn R n) := by
        refine List.filter_congr fun v hv => decide_eq_decide.mpr ⟨fun z => le_tr me (tlt v hv) (fl _) jl z (up _), fun z => ?_⟩
        rw [one v u hv u1 z uj.2]; exact u2
      unfold inn
      rw [this]
    · refine List.mem_map.mpr ⟨n.length - 1, List.mem_range.mpr ?_, ?_⟩
      · have := List.length_pos_iff.mpr ne; omega
      · have := List.length_pos_iff.mpr ne
        rw [show n.length - 1 + 1 = n.length by omega, fj_all me ne lt]
theorem firm_ush {R : List (List Nat)} (tb : Tb R) (me : Melts R) {th : List Nat} (f : firm R th) (tlt : ∀ n ∈ th, n < R.length) (d : PyData) : ush R th d = false := by
  by_cases h : ∃ d1 d2, d = .tuple [d1, d2]
  · obtain ⟨d1, d2, rfl⟩ := h
    cases b1 : shw R d1 with
    | false => unfold ush; simp only; rw [b1]; rfl
    | true =>
    cases b2 : shw R d2 with
    | false => unfold ush; simp only; rw [b2]; simp
    | true =>
    obtain ⟨c1, n1, rfl, ne1, lt1⟩ := shw_some b1
    obtain ⟨c2, n2, rfl, ne2, lt2⟩ := shw_some b2
    have n7 := tb.few
    rw [ush_nums lt1 lt2 ne1 ne2]
    unfold uls
    by_cases cu : uq n1 = uq n2
    · by_cases cj : jn R n1 = clh R
      · rw [decide_eq_true cj]; simp
      · have sm := (uq_iff (fun n hn => by have := lt1 n hn; omega) (fun n hn => by have := lt2 n hn; omega)).mp cu
        have ej := jn_same tb me ne1 ne2 lt1 sm
        have f1 := fr_firm tb me f tlt ne1 lt1 cj
        have f2 := fr_firm tb me f tlt ne2 lt2 (by rw [← ej]; exact cj)
        rw [← ej] at f2
        have : fr R th n1 = fr R th n2 := by
          by_cases e : inn R th (jn R n1) = []
          · rw [f1.1 e, f2.1 e]
          · rw [f1.2 e, f2.2 e]
        rw [decide_eq_true this]; simp
    · rw [decide_eq_false cu]; rfl
  · exact ush_not fun d1 d2 e => h ⟨d1, d2, e⟩
/-- no part of a pair that is too long -/
def okS (d : PyData) : Prop := ∀ d1 d2 dx ds, d = .tuple [d1, d2] → (dx = d1 ∨ dx = d2) → items dx = some ds → ds.length ≤ 60
theorem okS_no {d : PyData} (h : ∀ d1 d2, d ≠ .tuple [d1, d2]) : okS d := fun d1 d2 dx es e _ _ => (h _ _ e).elim
theorem okS_two {a b : PyData} (h1 : ∀ ds, items a = some ds → ds.length ≤ 60) (h2 : ∀ ds, items b = some ds → ds.length ≤ 60) : okS (.tuple [a, b]) := fun d1 d2 dx es e c z => by
  cases e
  rcases c with rfl | rfl
  · exact h1 es z
  · exact h2 es z
theorem it_none {d : PyData} (h : items d = none) : ∀ ds, items d = some ds → ds.length ≤ 60 := fun ds e => by rw [h] at e; cases e
theorem it_list {es : List PyData} (h : es.length ≤ 60) : ∀ ds, items (.list es) = some ds → ds.length ≤ 60 := fun ds e => by cases e; exact h
theorem it_sq {b : Bool} {l : List Nat} (h : l.length ≤ 60) : ∀ ds, items (sq b (l.map nD)) = some ds → ds.length ≤ 60 := fun ds e => by
  rw [items_sq] at e
  cases e
  rw [List.length_map]; exact h
theorem unV_none {R : List (List Nat)} {th : List Nat} {H0 H : Hp} {z : V} {B : Bool} (h : UnV R th H0 H z) (hB : firm R th ↔ B = true) : decide (z = .non) = B := by
  rcases h with ⟨h1, rfl⟩ | ⟨h1, v, u, _, _, _, _, n⟩
  · rw [hB.mp h1]; rfl
  · have : B = false := Bool.eq_false_iff.mpr fun e => h1 (hB.mpr e)
    rw [this]
    refine decide_eq_false fun e => ?_
    rw [e] at n
    cases n
/-- a list that is new, set in place -/
theorem same_mut {L : Addr} {H H' : Hp} {o : HO} (h : Same H H') (hL : H L = none) : Same H (upd H' L o) := fun b ob e => by
  have : b ≠ L := fun z => by rw [z, hL] at e; cases e
  rw [upd_ne this]
  exact h b ob e
end K31

set_option maxRecDepth 100000
set_option maxHeartbeats 8000000
namespace K31
open PySem PySem.Spec PyProof.Rows L2 Kh
section
variable {K : PySem.W.Frag} {S : Addr → Prop} {H0 : Hp} {σ : L2.St}
theorem t_orT {K2 : PySem.W.Frag} {ta tb : TE} {H : Hp} {Q : VK} (h : ta σ H fun x H1 => ∃ k, TruV K2 x H1 k ∧ if k = true then Q x H1 else tb σ H1 Q) : tOrT K2 ta tb σ H Q := h
theorem i_tup {tl : TE} {H : Hp} {R : It → Hp → Prop} (h : tl σ H fun x H1 => ∃ a, x = .ref a ∧ (∃ xs, SqT K H1 a xs) ∧ R (Itt K a) H1) : iTup K tl σ H R := h
/-- xs[:i] with names -/
theorem ev_takeV {k : Nat} {to : TE} {v : V} {l : List Nat} {i : Nat} (kn : Kn S H0) (hk : σ[k]? = some (some v)) (hi : ∀ H1, Same H0 H1 → ∀ Q : VK, (∀ H2, Same H1 H2 → Q (.int (i : Nat)) H2) → to σ H1 Q) (d : Dp K (off S H0) v (nL l)) (h : i ≤ l.length) : EvD K S H0 σ (tSl (rSlL K) (tVar k) tNoPart (tPart to)) (nL (l.take i)) := fun H1 s Q q =>
  t_sl (t_var hk (o_none (o_some (hi H1 s _ fun H2 s2 => ⟨_, rfl, sl_take (ms := l) (m := i) (f := nD) (kn.same (s.trans s2)) (dp_same (off_same (s.trans s2)) _ _ d) h fun z H3 s3 d3 => q z H3 (s2.trans s3) d3⟩))))
theorem t_catN {t1 t2 : TE} {ds es : List PyData} {Q : VK} (kn : Kn S H0) (h1 : EvD K S H0 σ t1 (.list ds)) (h2 : EvD K S H0 σ t2 (.list es)) (l : ds.length + es.length ≤ 1000)
    (q : ∀ (L : Addr) H1 us, Same H0 H1 → H1 L = none → DpAll K (off S H1) us (ds ++ es) → Q (.ref L) (upd H1 L (.lst us))) : tOp (rCatS K) t1 t2 σ H0 Q :=
  t_op (h1 H0 (Same.refl _) _ fun u H2 s2 d2 => h2 H2 s2 _ fun v H3 s3 d3 => by
    obtain ⟨a, xs, rfl, hs, ha⟩ := list_at (dp_same (off_same s3) _ _ d2)
    obtain ⟨b, ys, rfl, hs', hb⟩ := list_at d3
    have e1 := dpa_len ha
    have e2 := dpa_len hb
    exact ⟨a, b, xs, ys, rfl, rfl, off_sub.seq hs, off_sub.seq hs', Nat.le_trans (show xs.length + ys.length ≤ 1000 by omega) (by decide), fun L hL => q L H3 (xs ++ ys) (s2.trans s3) hL (dpa_app ha hb)⟩)
theorem ev_trD {k : Nat} {n : Nat} (hk : σ[k]? = some (some (.int (n : Nat)))) : EvD K S H0 σ (tIf (tTest (tOp (rI0 fun i j => .bl (decide (i < j))) (tVar k) (tC (.int 2)))) (tOp rEq (tVar k) (tC (.int 1))) (tVar k)) (trD n) := fun H1 s Q q => by
  refine t_if (b_test (t_op (t_var hk (t_c ⟨_, _, rfl, rfl, _, rfl, if_b (fun c => ?_) (fun c => ?_)⟩))))
  · have : n < 2 := by have := of_decide_eq_true c; omega
    unfold trD at q
    rw [if_pos this] at q
    refine t_op (t_var hk (t_c ⟨rfl, ?_⟩))
    have e : decide (V.int ((n : Nat) : Int) = V.int 1) = decide (n = 1) := dec_int n 1
    rw [e]
    exact q _ _ (Same.refl _) (.bl _)
  · have : ¬ n < 2 := by have := of_decide_eq_false c; omega
    unfold trD at q
    rw [if_neg this] at q
    exact t_var hk (q _ _ (Same.refl _) (.int _))
end
section
variable {P : Program} {w : World} {K : PySem.W.Frag} {mg : Str → Option Value} {base : Heap} {a : Nat → Addr} {fd : Nat → FuncData} {C : Addr} {tk : Nat → Tok}
def spFR (K : PySem.W.Frag) (C : Addr) : Sp := fun vs H Q _ => ∃ (S : Addr → Prop) (p : Addr) (R : List (List Nat)) (x : Addr) (vR vT : V) (th : List Nat), vs = [.ref p, .ref x, vR, .int (clh R : Nat), vT] ∧ Kn S H ∧ S p ∧ PotAt H p ∧ TabAt K C (off S H) R x ∧ Tb R ∧ Melts R ∧ Dp K (off S H) vR (nLL R) ∧ Dp K (off S H) vT (nL th) ∧ (∀ n ∈ th, n < R.length) ∧ th.Nodup ∧
  ∀ H', SameBut p H H' → PotAt H' p → Q (.bl true) H'
abbrev twD (x : List Nat × List Nat) : PyData := .tuple [nL x.1, nL x.2]
theorem ok__law_firm_right (T : Txt K mg a fd C tk) (U : TxC K mg a C) (kw_are_firm : kwR K (fd 22) "table" "thresholds") (kw_unlike_showers : kwR K (fd 23) "table" "thresholds") (kw_are_unlike_showers : kwR3 K (fd 25) "table" "thresholds" "value") : FnOk P w K mg base CX0 10 (a 37) (fd 37) ["_law_pot_here", "_law_table_here", "_law_rows", "_law_clash", "_law_thresholds"] (spFR K C) := by
  have G__law_are_unlike := ok__law_are_unlike (P := P) (w := w) (base := base) T
  have G__law_two := ok__law_two (P := P) (w := w) (base := base) T
  have G_are_firm := ok_are_firm (P := P) (w := w) (base := base) T U
  have G_unlike_showers := ok_unlike_showers (P := P) (w := w) (base := base) T U
  have G_are_unlike_showers := ok_are_unlike_showers (P := P) (w := w) (base := base) T U
  refine T.F__law_firm_right.ok sc__law_firm_right (fun vs H Q E h => by obtain ⟨_, _, _, _, _, _, _, rfl, _⟩ := h; rfl) (fun cdv A outer s H vs Q E hr h => ?_)
  obtain ⟨S, p, R, x, vR, vT, th, rfl, kn, hS, pot, ht, tb, me, dR, dT, tlt, tnd, q⟩ := h
  have n7 := tb.few
  have n1 := tb.pos
  have t7 : th.length ≤ 7 := Nat.le_trans (nodup_small tnd tlt) n7
  refine ⟨_, (pss_cons (ps_set (i := 5) sc__law_firm_right.nd rfl (Or.inl rfl) pe_bl)
      (pss_cons (ps_for PassesOwn.never rfl (pi_en (K := K) (by rfl) T.z_enumerate (pa_cons (pv 4) pa_nil)) (pg_tup rfl (pgs_cons (pg_name (i := 6) sc__law_firm_right.nd rfl (Or.inl rfl)) (pgs_cons (pg_name (i := 7) sc__law_firm_right.nd rfl (Or.inr rfl)) pgs_nil)))
        (pss_one (ps_set (i := 5) sc__law_firm_right.nd rfl (Or.inl rfl) (pe_and (pv 5) (pe_one (pe_callB (k_all (K := K) rfl) (by rfl) T.z_all (by decide +kernel) (pa_cons (pe_lc (own := [("_law_other", 12)]) (g := gName 12) (tt := tYes) rfl sc__law_firm_right.nd (k_pi (K := K) (pe_slice (k_sl (K := K)) (pv 4) po_none (po_some (pv 6)))) (blkOk_by (own := [("_law_other", 12)]) (N := _law_firm_right_N) (sc := defScope _law_firm_right_s) (by decide +kernel)) (fun _ _ _ _ _ => (pg_name (i := 12) sc__law_firm_right.nd rfl (Or.inl rfl))) (fun _ _ _ _ _ => pts_nil) (fun _ _ _ _ _ => (pe_cmpR op_eq (pe_ix (k_ix (K := K)) (pe_ix (k_ix (K := K)) (pv 2) (pv 7) (fun _ _ => rfl)) (pv 12) (fun _ _ => rfl)) (pv 3) (nomark _)))) pa_nil)))))))
      (pss_cons (ps_set (i := 8) sc__law_firm_right.nd rfl (Or.inl rfl) (pe_lst (pa_cons (pe_call G_are_firm (hr.mono (by omega)) (by rfl) T.m_are_firm T.F_are_firm.kp T.b_are_firm .nil pass0 (pa_cons (pv 1) (pa_cons (pv 4) pa_nil))) (pa_cons (pe_kwR (ks := ["thresholds", "table"]) G_are_firm (hr.mono (by omega)) (by rfl) T.m_are_firm T.F_are_firm.kp kw_are_firm (pk_cons (pe_callTy (k_tup (K := K)) (by rfl) T.z_tuple (by decide +kernel) (pa_cons (pe_revL (pv 4)) pa_nil)) (pk_cons (pv 1) pk_nil))) pa_nil))))
      (pss_cons (ps_set (i := 9) sc__law_firm_right.nd rfl (Or.inl rfl) (pe_call G_unlike_showers (hr.mono (by omega)) (by rfl) T.m_unlike_showers T.F_unlike_showers.kp T.b_unlike_showers .nil pass0 (pa_cons (pv 1) (pa_cons (pv 4) pa_nil))))
      (pss_cons (ps_if (PW.pt (pw_or (pt_cmpR (k_neD (K := K) hr.units) (pv 8) (pe_lst (pa_cons (pv 5) (pa_cons (pv 5) pa_nil))) (nomark _)) (pw_or1 (pt_cmpR op_ne (pe_cmpR op_isN (pv 9) pe_non (nomark _)) (pv 5) (nomark _)))))
        (pss_one (ps_ret pe_bl)) pss_nil)
      (pss_cons (ps_if (pt_cmpR op_ne (pe_cmpR op_isN (pe_kwR (ks := ["thresholds", "table"]) G_unlike_showers (hr.mono (by omega)) (by rfl) T.m_unlike_showers T.F_unlike_showers.kp kw_unlike_showers (pk_cons (pv 4) (pk_cons (pv 1) pk_nil))) pe_non (nomark _)) (pv 5) (nomark _))
        (pss_one (ps_ret pe_bl)) pss_nil)
      (pss_cons (ps_setLc (i := 10) (own := [("_law_turn", 17)]) (g := gName 17) (tt := tYes) rfl sc__law_firm_right.nd rfl rfl (sw_true rfl rfl rfl (by decide +kernel)) (pi_range1 (by rfl) T.z_range (pa_cons pe_int pa_nil)) (blkOk_by (own := [("_law_turn", 17)]) (N := _law_firm_right_N) (sc := defScope _law_firm_right_s) (by decide +kernel)) (fun _ _ _ _ _ => (pg_name (i := 17) sc__law_firm_right.nd rfl (Or.inl rfl))) (fun _ _ _ _ _ => pts_nil) (fun _ _ _ _ _ => (pe_call G__law_two (hr.mono (by omega)) (by rfl) T.m__law_two T.F__law_two.kp T.b__law_two .nil pass0 (pa_cons (pv 0) (pa_cons (pv 2) pa_nil)))))
      (pss_cons (ps_set (i := 11) sc__law_firm_right.nd rfl (Or.inl rfl) (pe_op (k_catS (K := K)) (pv 10) (pe_lst (pa_cons pe_non (pa_cons pe_int (pa_cons (pe_tup pa_nil) (pa_cons (pe_tup (pa_cons (pe_lst (pa_cons pe_int pa_nil)) pa_nil)) (pa_cons (pe_tup (pa_cons (pe_lst (pa_cons pe_int pa_nil)) (pa_cons (pe_lst pa_nil) pa_nil))) (pa_cons (pe_tup (pa_cons (pe_lst pa_nil) (pa_cons (pe_lst pa_nil) pa_nil))) (pa_cons (pe_tup (pa_cons (pe_lst (pa_cons pe_int pa_nil)) (pa_cons pe_non pa_nil))) (pa_cons (pe_tup (pa_cons (pe_lst (pa_cons pe_int pa_nil)) (pa_cons (pe_lst (pa_cons pe_bl pa_nil)) pa_nil))) (pa_cons (pe_tup (pa_cons (pe_lst (pa_cons pe_int pa_nil)) (pa_cons (pe_lst (pa_cons (pe_callB (k_len (K := K)) (by rfl) T.z_len (by decide +kernel) (pa_cons (pv 2) pa_nil)) pa_nil)) pa_nil))) (pa_cons pe_str pa_nil)))))))))))))
      (pss_cons (ps_expr (pe_bm PySem.F.plainAttrs_list PySem.F.slot_list_append PySem.F.type_list_append mt_append (pv 11) (pa_cons (pe_tup (pa_cons (pe_lst (pa_cons (pe_callB (k_len (K := K)) (by rfl) T.z_len (by decide +kernel) (pa_cons (pv 2) pa_nil)) pa_nil)) (pa_cons (pe_lst (pa_cons (pe_callB (k_len (K := K)) (by rfl) T.z_len (by decide +kernel) (pa_cons (pv 2) pa_nil)) pa_nil)) pa_nil))) pa_nil)))
      (pss_cons (ps_if (pt_cmpR op_notN (pv 9) pe_non (nomark _))
        (pss_cons (ps_if (pt_not (pt_val (pe_call G__law_are_unlike (hr.mono (by omega)) (by rfl) T.m__law_are_unlike T.F__law_are_unlike.kp T.b__law_are_unlike .nil pass0 (pa_cons (pv 2) (pa_cons (pv 3) (pa_cons (pv 4) (pa_cons (pv 9) pa_nil)))))))
          (pss_one (ps_ret pe_bl)) pss_nil)
        (pss_cons (ps_asg (pe_tup (pa_cons (pe_callTy (k_list (K := K)) (by rfl) T.z_list (by decide +kernel) (pa_cons (pe_ix (k_ix (K := K)) (pv 9) pe_int (fun _ _ => rfl)) pa_nil)) (pa_cons (pe_callTy (k_list (K := K)) (by rfl) T.z_list (by decide +kernel) (pa_cons (pe_ix (k_ix (K := K)) (pv 9) pe_int (fun _ _ => rfl)) pa_nil)) pa_nil))) (pg_tup rfl (pgs_cons (pg_name (i := 7) sc__law_firm_right.nd rfl (Or.inr rfl)) (pgs_cons (pg_name (i := 12) sc__law_firm_right.nd rfl (Or.inl rfl)) pgs_nil))))
        (pss_cons (ps_set (i := 11) sc__law_firm_right.nd rfl (Or.inl rfl) (pe_op (k_catS (K := K)) (pv 11) (pe_lst (pa_cons (pv 9) (pa_cons (pe_tup (pa_cons (pv 12) (pa_cons (pv 7) pa_nil))) (pa_cons (pe_tup (pa_cons (pv 7) (pa_cons (pv 7) pa_nil))) (pa_cons (pe_lst (pa_cons (pv 7) (pa_cons (pv 12) pa_nil))) (pa_cons (pe_tup (pa_cons (pe_op (k_catS (K := K)) (pv 7) (pe_slice (k_sl (K := K)) (pv 7) po_none (po_some pe_int))) (pa_cons (pv 12) pa_nil))) (pa_cons (pe_tup (pa_cons (pv 7) (pa_cons (pe_slice (k_sl (K := K)) (pv 12) (po_some pe_int) po_none) pa_nil))) pa_nil)))))))))
        (pss_cons (ps_set (i := 11) sc__law_firm_right.nd rfl (Or.inl rfl) (pe_op (k_catS (K := K)) (pv 11) (pe_lst (pa_cons (pe_tup (pa_cons (pv 7) (pa_cons (pe_op (k_catS (K := K)) (pv 12) (pe_lst (pa_cons (pv 3) pa_nil))) pa_nil))) (pa_cons (pe_tup (pa_cons (pv 7) (pa_cons (pv 12) (pa_cons (pv 7) pa_nil)))) pa_nil)))))
        (pss_one (ps_if (pt_cmpR op_lt (pe_op op_add (pe_callB (k_len (K := K)) (by rfl) T.z_len (by decide +kernel) (pa_cons (pv 7) pa_nil)) (pe_callB (k_len (K := K)) (by rfl) T.z_len (by decide +kernel) (pa_cons (pv 12) pa_nil))) pe_int (nomark _))
          (pss_cons (ps_setLc (i := 13) (own := [("_law_value", 18)]) (g := gName 18) (tt := tYes) rfl sc__law_firm_right.nd rfl rfl (sw_true rfl rfl rfl (by decide +kernel)) (k_pi (K := K) (pv 7)) (blkOk_by (own := [("_law_value", 18)]) (N := _law_firm_right_N) (sc := defScope _law_firm_right_s) (by decide +kernel)) (fun _ _ _ _ _ => (pg_name (i := 18) sc__law_firm_right.nd rfl (Or.inl rfl))) (fun _ _ _ _ _ => pts_nil) (fun _ _ _ _ _ => (pe_ifExp (pt_cmpR op_lt (pv 18) pe_int (nomark _)) (pe_cmpR op_eq (pv 18) pe_int (nomark _)) (pv 18))))
          (pss_one (ps_set (i := 11) sc__law_firm_right.nd rfl (Or.inl rfl) (pe_op (k_catS (K := K)) (pv 11) (pe_lst (pa_cons (pe_tup (pa_cons (pv 13) (pa_cons (pv 12) pa_nil))) (pa_cons (pe_tup (pa_cons (pv 12) (pa_cons (pv 13) pa_nil))) (pa_cons (pe_tup (pa_cons (pe_callTy (k_tup (K := K)) (by rfl) T.z_tuple (by decide +kernel) (pa_cons (pv 7) pa_nil)) (pa_cons (pe_callTy (k_tup (K := K)) (by rfl) T.z_tuple (by decide +kernel) (pa_cons (pv 12) pa_nil)) pa_nil))) pa_nil)))))))) pss_nil)))))) pss_nil)
      (pss_cons (ps_for PassesOwn.never rfl (k_pi (K := K) (pv 11)) (pg_name (i := 14) sc__law_firm_right.nd rfl (Or.inl rfl))
        (pss_cons (ps_set (i := 15) sc__law_firm_right.nd rfl (Or.inl rfl) (pe_call G__law_are_unlike (hr.mono (by omega)) (by rfl) T.m__law_are_unlike T.F__law_are_unlike.kp T.b__law_are_unlike .nil pass0 (pa_cons (pv 2) (pa_cons (pv 3) (pa_cons (pv 4) (pa_cons (pv 14) pa_nil))))))
        (pss_cons (ps_set (i := 8) sc__law_firm_right.nd rfl (Or.inl rfl) (pe_lst (pa_cons (pe_call G_are_unlike_showers (hr.mono (by omega)) (by rfl) T.m_are_unlike_showers T.F_are_unlike_showers.kp T.b_are_unlike_showers .nil pass0 (pa_cons (pv 1) (pa_cons (pv 4) (pa_cons (pv 14) pa_nil)))) pa_nil)))
        (pss_cons (ps_expr (pe_bm PySem.F.plainAttrs_list PySem.F.slot_list_append PySem.F.type_list_append mt_append (pv 8) (pa_cons (pe_kwR (ks := ["value", "thresholds", "table"]) G_are_unlike_showers (hr.mono (by omega)) (by rfl) T.m_are_unlike_showers T.F_are_unlike_showers.kp kw_are_unlike_showers (pk_cons (pv 14) (pk_cons (pv 4) (pk_cons (pv 1) pk_nil)))) pa_nil)))
        (pss_one (ps_if (PW.pt (pw_or (pt_cmpR (k_neD (K := K) hr.units) (pv 8) (pe_lst (pa_cons (pv 15) (pa_cons (pv 15) pa_nil))) (nomark _)) (pw_or1 (PW.pt (pw_and (pt_val (pv 5)) (pw_and1 (pt_val (pv 15))))))))
          (pss_one (ps_ret pe_bl)) pss_nil))))))
      (pss_cons (ps_for PassesOwn.never rfl (k_pi (K := K) (pe_orT (pv 9) (pe_one (pe_tup pa_nil)))) (pg_name (i := 16) sc__law_firm_right.nd rfl (Or.inl rfl))
        (pss_one (ps_if (pt_val (pe_callB (k_isi (K := K)) (by rfl) T.z_isinstance (by decide +kernel) (pa_cons (pv 16) (pa_cons (pe_bltn (v := .ty "list") (by rfl) T.z_list (by decide +kernel) rfl) pa_nil))))
          (pss_one (ps_expr (pe_bm PySem.F.plainAttrs_list PySem.F.slot_list_append PySem.F.type_list_append mt_append (pv 16) (pa_cons pe_non pa_nil)))) pss_nil)))
      (pss_one (ps_ret (pe_or (pv 5) (pe_one (pe_call G__law_are_unlike (hr.mono (by omega)) (by rfl) T.m__law_are_unlike T.F__law_are_unlike.kp T.b__law_are_unlike .nil pass0 (pa_cons (pv 2) (pa_cons (pv 3) (pa_cons (pv 4) (pa_cons (pe_call G_unlike_showers (hr.mono (by omega)) (by rfl) T.m_unlike_showers T.F_unlike_showers.kp T.b_unlike_showers .nil pass0 (pa_cons (pv 1) (pa_cons (pv 4) pa_nil))) pa_nil))))))))))))))))))))), ?_⟩
  refine s_seq (s_set (t_c (nx_of ?_)))
  refine s_seq (s_en false th nD rfl dT (fun i σ' H' => ∃ x6 x7 : Option V, σ' = [some (.ref p), some (.ref x), some vR, some (.int (clh R : Nat)), some vT, some (.bl (frmB R (th.take i))), x6, x7, none, none, none, none, none, none, none, none, none, none, none] ∧ Same H H') ⟨_, _, rfl, Same.refl _⟩ (fun i σ' H' ⟨_, _, _, z⟩ => off_sub.trans z) (fun i m y σ' H2 H3 hm hmem dy ⟨x6, x7, e, z2⟩ z3 => ?_) fun σ' H2 ⟨x6, x7, e, s2⟩ => ?_)
  · subst e
    cases dy
    have z23 := z2.trans z3
    have il := (List.getElem?_eq_some_iff.mp hm).1
    have no : m ∉ th.take i := fun hmi => by
      have h2 := tnd
      rw [← List.take_append_drop (i + 1) th, take_snoc' hm, List.append_assoc] at h2
      have := (List.nodup_append.mp h2).2.2 m hmi m (by simp)
      exact this rfl
    have lti : ∀ n ∈ th.take i, n < R.length := fun n hn => tlt n (List.mem_of_mem_take hn)
    have e5 : frmB R (th.take (i + 1)) = (frmB R (th.take i) && (th.take i).all fun m' => decide (at_ R m m' = clh R)) := by rw [take_snoc' hm]; exact frmB_snoc me lti (tlt m hmem) no
    have kn3 := kn.same z23
    refine s_set (t_andV (t_var rfl ⟨_, rfl, if_b (fun c => ?_) (fun c => nx_of ⟨some (.int (i : Nat)), some (.int (m : Nat)), by rw [e5, c]; rfl, z23⟩)⟩))
    refine ev_all (ev_bools (K := K) (S := S) false (th.take i) (fun m' => decide (at_ R m m' = clh R)) kn3 (ev_takeV kn3 rfl (fun H1 s1 Q q => t_var rfl (q _ (Same.refl _))) (dp_same (off_same z23) _ _ dT) (by omega)) (by rw [List.length_take]; omega) (fun _ => rfl) fun m' hm' H4 S4 kn4 ho => ev_eqn (ev_rcG (K := K) (S := S4) tb rfl (dp_same ((off_same z23).trans ho) _ _ dR) (ev_var rfl (.int _)) (ev_var rfl (.int _)) (tlt m hmem) (lti m' hm')) (ev_var rfl (.int _))) H3 (Same.refl _) _ fun b H4 s4 db => ?_
    cases db
    refine nx_of ⟨some (.int (i : Nat)), some (.int (m : Nat)), ?_, z23.trans s4⟩
    rw [e5, c, Bool.true_and, List.all_map]
    rfl
  subst e
  rw [List.take_length]
  obtain ⟨B, eB⟩ : ∃ B, B = frmB R th := ⟨_, rfl⟩
  have hB : firm R th ↔ B = true := by rw [eB]; exact frmB_iff
  rw [← eB]
  have kn2 := kn.same s2
  have ht2 := ht.same (off_same s2)
  have dT2 := dp_same (off_same s2) _ _ dT
  refine nx_of (s_seq (s_set (t_lst (a_cons (ev_callT (K := K) (S := S) (enc := e1s) (f := fun R x => PyData.bool (frmB R x.2)) (false, th) kn2 ht2 tb rfl (ea_cons (ev_var rfl dT2) ea_nil) ⟨me, tlt, tnd⟩ H2 (Same.refl _) _ fun b1 H3 s3 db1 => a_cons (t_krr (a_cons (ev_tupof (K := K) (S := S) (l := th.reverse) (kn2.same s3) (ev_rev (kn2.same s3) (ev_var rfl (dp_same (off_same s3) _ _ dT2))) H3 (Same.refl _) _ fun y4 H4 s4 d4 => a_cons (t_var rfl (a_nil ⟨rfl, S, R, x, (true, th.reverse), [y4], rfl, kn2.same (s3.trans s4), ht2.same (off_same (s3.trans s4)), tb, .cons d4 .nil, ⟨me, fun n hn => tlt n (List.mem_reverse.mp hn), (List.reverse_perm th).nodup_iff.mpr tnd⟩, fun b2 H5 s5 db2 => a_nil ⟨le2, fun L8 hL8 => nx_of ?_⟩⟩))))))))))
  replace db1 : Dp K (off S H3) b1 (.bool (frmB R th)) := db1
  replace db2 : Dp K (off S H5) b2 (.bool (frmB R th.reverse)) := db2
  rw [frmB_rev] at db2
  rw [← eB] at db1 db2
  cases db1
  cases db2
  have s25 := s3.trans (s4.trans s5)
  have s6 := same_new (o := HO.lst [V.bl B, V.bl B]) hL8
  have d8 := dp_newL (K := K) (ds := [.bool B, .bool B]) (ys := [V.bl B, V.bl B]) (kn2.same s25) hL8 (.cons (.bl _) (.cons (.bl _) .nil))
  have s06 := s2.trans (s25.trans s6)
  generalize upd H5 L8 (.lst [V.bl B, V.bl B]) = H6 at *
  clear s6 s25 s3 s4 s5 d4 hL8 kn2 ht2 dT2 s2
  have kn6 := kn.same s06
  have ht6 := ht.same (off_same s06)
  have dR6 := dp_same (off_same s06) _ _ dR
  have dT6 := dp_same (off_same s06) _ _ dT
  have pot6 := pot.same s06
  refine s_seq (s_set (t_call2 (t_var rfl (t_var rfl ⟨S, R, x, false, th, vT, rfl, kn6, ht6, tb, me, dT6, tlt, tnd, fun z H7 s7 uv => nx_of ?_⟩))))
  refine s_seq (s_if (b_or (b_test (t_op (t_var rfl (t_lst (a_cons (t_var rfl (a_cons (t_var rfl (a_nil ⟨le2, fun p9 h9 => ?_⟩)))))))))))
  have d9 := dp_newL (K := K) (ds := [.bool B, .bool B]) (ys := [V.bl B, V.bl B]) (kn6.same s7) h9 (.cons (.bl _) (.cons (.bl _) .nil))
  have s9 := same_new (o := HO.lst [V.bl B, V.bl B]) h9
  refine ne_bools (dp_same (off_same (s7.trans s9)) _ _ d8) d9 ⟨_, rfl, ifF rfl ?_⟩
  refine b_test (t_op (t_op (t_var rfl (t_c ⟨rfl, t_var rfl ⟨rfl, _, rfl, ?_⟩⟩))))
  rw [unV_none uv hB]
  refine ifF (by simp) (s_next ?_)
  have s69 := s7.trans s9
  generalize upd H7 p9 (.lst [V.bl B, V.bl B]) = H9 at *
  refine s_seq (s_if (b_test (t_op (t_op (t_krr (a_cons (t_var rfl (a_cons (t_var rfl (a_nil ⟨rfl, S, R, x, false, th, vT, rfl, kn6.same s69, ht6.same (off_same s69), tb, me, dp_same (off_same s69) _ _ dT6, tlt, tnd, fun z2 H10 s10 uv2 => t_c ⟨rfl, t_var rfl ⟨rfl, _, rfl, ?_⟩⟩⟩))))))))))
  rw [unV_none uv2 hB]
  refine ifF (by simp) (s_next ?_)
  clear uv2 d8 d9
  have s610 := s69.trans s10
  have s710 : Same H7 H10 := s9.trans s10
  have kn10 := kn6.same s610
  have pot10 := pot6.same s610
  have dR10 := dp_same (off_same s610) _ _ dR6
  refine s_seq (s_set (lc_potR twD (K := K) (Pn := fun n => n = 4) (Xp := fun _ S' H' => Dp K (off S' H') vR (nLL R)) (Good := fun x => x.1.length ≤ 4 ∧ x.2.length ≤ 6) hS kn10 (fun q' h' => a_cons (t_c (a_nil (h' H10 4 (sbut (Same.refl _)) pot10 rfl)))) (fun n h => by omega) (fun _ => rfl) (fun D H1 x hD sb => dp_same (off_plusB hS hD sb) _ _ dR10) (fun x H1 S' sb pt1 kn1 hS' xp Q' q' => ?_) fun D H11 n ms sb11 pt11 hn hl good dM => nx_of ?_))
  · exact t_call2 (t_var rfl (t_var rfl ⟨S', p, R, vR, rfl, kn1, hS', pt1, xp, tb, fun m1 m2 u H' sb' pt' _ _ _ l4 l6 d => q' u H' (m1, m2) sb' pt' ⟨l4, l6⟩ d⟩))
  have sb611 := sb_trans (sbut s610) sb11
  have sb711 : SameBut p H7 H11 := sb_trans (sbut s710) sb11
  have kn11 := kn_bt kn10 sb11 pt11.some
  have dR11 := dp_same (off_bt hS sb11) _ _ dR10
  have l0 : EvD K S H11 [some (.ref p), some (.ref x), some vR, some (.int (clh R : Nat)), some vT, some (.bl B), x6, x7, some (.ref L8), some z, some (.ref D), none, none, none, none, none, none, none, none] (tLst (tCons (tC (.int 0)) tNil)) (.list [.int 0]) := ev_lst (ds := [.int 0]) kn11 (ea_cons (ev_int 0) ea_nil) (show 1 ≤ 100 by decide)
  have lN : EvD K S H11 [some (.ref p), some (.ref x), some vR, some (.int (clh R : Nat)), some vT, some (.bl B), x6, x7, some (.ref L8), some z, some (.ref D), none, none, none, none, none, none, none, none] (tLst tNil) (.list []) := ev_nilL kn11
  refine s_seq (s_set (t_catN (K := K) (S := S) (ds := ms.map twD) kn11 (ev_var rfl dM) (ev_lst (ds := [PyData.none, .int 0, .tuple [], .tuple [.list [.int 0]], .tuple [.list [.int 0], .list []], .tuple [.list [], .list []], .tuple [.list [.int 0], .none], .tuple [.list [.int 0], .list [.bool true]], .tuple [.list [.int 0], .list [nD R.length]], .str "00"]) kn11 (ea_cons ev_non (ea_cons (ev_int 0) (ea_cons (ev_nilT kn11) (ea_cons (ev_tup (ds := [.list [.int 0]]) kn11 (ea_cons l0 ea_nil) (show 1 ≤ 100 by decide)) (ea_cons (ev_tup (ds := [.list [.int 0], .list []]) kn11 (ea_cons l0 (ea_cons lN ea_nil)) (show 2 ≤ 100 by decide)) (ea_cons (ev_tup (ds := [.list [], .list []]) kn11 (ea_cons lN (ea_cons lN ea_nil)) (show 2 ≤ 100 by decide)) (ea_cons (ev_tup (ds := [.list [.int 0], .none]) kn11 (ea_cons l0 (ea_cons ev_non ea_nil)) (show 2 ≤ 100 by decide)) (ea_cons (ev_tup (ds := [.list [.int 0], .list [.bool true]]) kn11 (ea_cons l0 (ea_cons (ev_lst (ds := [.bool true]) kn11 (ea_cons (ev_bl true) ea_nil) (show 1 ≤ 100 by decide)) ea_nil)) (show 2 ≤ 100 by decide)) (ea_cons (ev_tup (ds := [.list [.int 0], .list [nD R.length]]) kn11 (ea_cons l0 (ea_cons (ev_lst (ds := [nD R.length]) kn11 (ea_cons (ev_len rfl dR11) ea_nil) (show 1 ≤ 100 by decide)) ea_nil)) (show 2 ≤ 100 by decide)) (ea_cons (ev_str "00") ea_nil)))))))))) (show 10 ≤ 100 by decide)) (by rw [List.length_map, hl, hn]; exact (show 4 + 10 ≤ 1000 by decide)) fun L H12 us s12 hL a12 => nx_of ?_))
  have ok12 : ∀ d ∈ ms.map twD ++ [PyData.none, .int 0, .tuple [], .tuple [.list [.int 0]], .tuple [.list [.int 0], .list []], .tuple [.list [], .list []], .tuple [.list [.int 0], .none], .tuple [.list [.int 0], .list [.bool true]], .tuple [.list [.int 0], .list [nD R.length]], .str "00"], okS d := fun d hd => by
    rcases List.mem_append.mp hd with h | h
    · obtain ⟨t, ht, rfl⟩ := List.mem_map.mp h
      have := good t ht
      exact okS_two (it_sq (b := false) (by omega)) (it_sq (b := false) (by omega))
    · simp only [List.mem_cons, List.not_mem_nil, or_false] at h
      rcases h with rfl | rfl | rfl | rfl | rfl | rfl | rfl | rfl | rfl | rfl
      · exact okS_no fun _ _ e => nomatch e
      · exact okS_no fun _ _ e => nomatch e
      · exact okS_no fun _ _ e => nomatch e
      · exact okS_no fun _ _ e => nomatch e
      · exact okS_two (it_list (by decide)) (it_list (by decide))
      · exact okS_two (it_list (by decide)) (it_list (by decide))
      · exact okS_two (it_list (by decide)) (it_none rfl)
      · exact okS_two (it_list (by decide)) (it_list (by decide))
      · exact okS_two (it_list (by simp)) (it_list (by simp))
      · exact okS_no fun _ _ e => nomatch e
  have ld12 : (ms.map twD ++ [PyData.none, .int 0, .tuple [], .tuple [.list [.int 0]], .tuple [.list [.int 0], .list []], .tuple [.list [], .list []], .tuple [.list [.int 0], .none], .tuple [.list [.int 0], .list [.bool true]], .tuple [.list [.int 0], .list [nD R.length]], .str "00"]).length = 14 := by rw [List.length_append, List.length_map, hl, hn]; rfl
  generalize ms.map twD ++ [PyData.none, .int 0, .tuple [], .tuple [.list [.int 0]], .tuple [.list [.int 0], .list []], .tuple [.list [], .list []], .tuple [.list [.int 0], .none], .tuple [.list [.int 0], .list [.bool true]], .tuple [.list [.int 0], .list [nD R.length]], .str "00"] = ds12 at *
  clear l0 lN dM good hl hn
  have lu12 := dpa_len a12
  rw [ld12] at lu12
  have s13 := same_new (o := HO.lst us) hL
  have hL13 : (upd H12 L (.lst us)) L = some (.lst us) := upd_same
  have kn12 := kn11.same s12
  have kn13 : Kn (plus S L) (upd H12 L (.lst us)) := (kn12.same s13).plus (some_ne hL13)
  have dR12 := dp_same (off_same s12) _ _ dR11
  have dR13 : Dp K (off (plus S L) (upd H12 L (.lst us))) vR (nLL R) := dp_same (off_plus hL s13) _ _ dR12
  refine s_seq (s_drop (t_bm (t_var rfl ⟨.inl ⟨rfl, _, sqL hL13⟩, a_cons (ev_tup (K := K) (S := plus S L) (ds := [.list [nD R.length], .list [nD R.length]]) kn13 (ea_cons (ev_lst (ds := [nD R.length]) kn13 (ea_cons (ev_len rfl dR13) ea_nil) (show 1 ≤ 100 by decide)) (ea_cons (ev_lst (ds := [nD R.length]) kn13 (ea_cons (ev_len rfl dR13) ea_nil) (show 1 ≤ 100 by decide)) ea_nil)) (show 2 ≤ 100 by decide) _ (Same.refl _) _ fun y H14 s14 d14 => a_nil ⟨L, us, y, rfl, rfl, s14 _ _ hL13, Nat.lt_of_le_of_lt (show us.length ≤ 1000 by omega) (by decide), nx_of ?_⟩)⟩)))
  have s1214 : Same H12 H14 := s13.trans s14
  have s1215 : Same H12 (upd H14 L (.lst (us ++ [y]))) := same_mut s1214 hL
  have d15 : Dp K (off S (upd H14 L (.lst (us ++ [y])))) y (.tuple [.list [nD R.length], .list [nD R.length]]) := dp_same ((off_mut' (.inr rfl)).trans off_fin) _ _ d14
  have a15 : DpAll K (off S (upd H14 L (.lst (us ++ [y])))) (us ++ [y]) (ds12 ++ [PyData.tuple [.list [nD R.length], .list [nD R.length]]]) := dpa_app (dpa_same (off_same s1215) _ _ a12) (.cons d15 .nil)
  have ok15 : ∀ d ∈ ds12 ++ [PyData.tuple [.list [nD R.length], .list [nD R.length]]], okS d := fun d hd => by
    rcases List.mem_append.mp hd with h | h
    · exact ok12 d h
    · rw [List.mem_singleton] at h
      subst h
      exact okS_two (it_list (by simp)) (it_list (by simp))
  have hL15 : (upd H14 L (.lst (us ++ [y]))) L = some (.lst (us ++ [y])) := upd_same
  have nSL : ¬ S L := fun h => kn12 L h hL
  have dL15 := dp_lst nSL hL15 a15
  have ld15 : (ds12 ++ [PyData.tuple [.list [nD R.length], .list [nD R.length]]]).length = 15 := by rw [List.length_append, ld12]; rfl
  generalize ds12 ++ [PyData.tuple [.list [nD R.length], .list [nD R.length]]] = ds15 at *
  have s1115 : Same H11 (upd H14 L (.lst (us ++ [y]))) := s12.trans s1215
  generalize upd H14 L (.lst (us ++ [y])) = H15 at *
  clear s1215 s1214 d15 a15 hL15 nSL s14 d14 hL13 kn13 dR13 s13 dR12 a12 ok12 kn12 lu12 ld12 hL s12
  have sb615 := sb_trans sb611 (sbut s1115)
  have sb715 := sb_trans sb711 (sbut s1115)
  have pt15 := pt11.same s1115
  have kn15 := kn11.same s1115
  have htA : ∀ {H'}, SameBut p H6 H' → TabAt K C (off S H') R x := fun {H'} sb => ht6.same (off_bt hS sb)
  have dRA : ∀ {H'}, SameBut p H6 H' → Dp K (off S H') vR (nLL R) := fun {H'} sb => dp_same (off_bt hS sb) _ _ dR6
  have dTA : ∀ {H'}, SameBut p H6 H' → Dp K (off S H') vT (nL th) := fun {H'} sb => dp_same (off_bt hS sb) _ _ dT6
  have oldp : old H6 p := pot6.some
  have zD : ∀ {H' d}, SameBut p H7 H' → Np (off (old H6) H7) z d → Dp K (off S H') z d := fun {H' d} sb nz => (np_off (nz.same (off_bt oldp sb)) fun b hb => kn6 b hb).dp
  refine s_mid (fun σ' H' => ∃ (x7' x12 x13 : Option V) (vL : V) (ds : List PyData), σ' = [some (.ref p), some (.ref x), some vR, some (.int (clh R : Nat)), some vT, some (.bl B), x6, x7', some (.ref L8), some z, some (.ref D), some vL, x12, x13, none, none, none, none, none] ∧ Same H15 H' ∧ Dp K (off S H') vL (.list ds) ∧ (∀ d ∈ ds, okS d) ∧ ds.length ≤ 1000) ?_ fun key => ?_
  rotate_left
  · refine s_seq (s_if (b_test (t_op (t_var rfl (t_c ⟨rfl, _, rfl, ?_⟩)))))
    rcases id uv with ⟨f, rfl⟩ | ⟨nf, v1, v2, h1, h2, ne, nc, nz⟩
    · exact ifF rfl (s_next (key _ _ ⟨_, _, _, _, ds15, rfl, Same.refl _, dL15, ok15, by omega⟩))
    · have zn : decide (z = .non) = false := decide_eq_false fun e => by rw [e] at nz; cases nz
      refine ifT (by rw [zn]; rfl) ?_
      have dz : Dp K (off S H15) z (.tuple [nL [v1, v2], nL [v2, v1]]) := zD sb715 nz
      clear nz
      refine s_seq (s_if (b_not (b_val (t_call (a_cons (t_var rfl (a_cons (t_var rfl (a_cons (t_var rfl (a_cons (t_var rfl (a_nil ⟨S, R, vR, th, vT, .tuple [nL [v1, v2], nL [v2, v1]], z, rfl, kn15, dRA sb615, tb, dTA sb615, tlt, tnd, dz, okS_two (it_sq (b := false) (by simp)) (it_sq (b := false) (by simp)), fun H16 s16 => ⟨_, rfl, ifF (by rw [ush_two me tlt h1 h2 ne nc]; rfl) (s_next ?_)⟩⟩)))))))))))))
      have kn16 := kn15.same s16
      have dz16 := dp_same (off_same s16) _ _ dz
      refine s_seq (s_asgg (t_tup (a_cons (ev_list (K := K) (S := S) (ds := [nD v1, nD v2]) kn16 (ev_ix (i := 0) (ev_var rfl dz16) rfl (ev_int 0) rfl) rfl H16 (Same.refl _) _ fun y1 H17 s17 d17 => a_cons (ev_list (K := K) (S := S) (ds := [nD v2, nD v1]) (kn16.same s17) (ev_ix (i := 1) (ev_var rfl (dp_same (off_same s17) _ _ dz16)) rfl (ev_int 1) rfl) rfl H17 (Same.refl _) _ fun y2 H18 s18 d18 => a_nil ⟨le2, fun r hr => ⟨r, [y1, y2], rfl, sqT upd_same, rfl, _, [y2], rfl, _, [], rfl, rfl, nx_of ?_⟩⟩)))))
      have sr := same_new (o := HO.tup [y1, y2]) hr
      have s1619 := s17.trans (s18.trans sr)
      have d1 : Dp K (off S (upd H18 r (.tup [y1, y2]))) y1 (nL [v1, v2]) := dp_same (off_same (s18.trans sr)) _ _ d17
      have d2 : Dp K (off S (upd H18 r (.tup [y1, y2]))) y2 (nL [v2, v1]) := dp_same (off_same sr) _ _ d18
      generalize upd H18 r (.tup [y1, y2]) = H19 at *
      have s1519 := s16.trans s1619
      have kn19 := kn15.same s1519
      have dz19 := dp_same (off_same s1519) _ _ dz
      have dL19 := dp_same (off_same s1519) _ _ dL15
      clear sr s17 s18 d17 d18 hr kn16 dz16 s1619 s16
      have e1 : ∀ {H' vL x13}, Same H19 H' → EvD K S H' [some (.ref p), some (.ref x), some vR, some (.int (clh R : Nat)), some vT, some (.bl B), x6, some y1, some (.ref L8), some z, some (.ref D), vL, some y2, x13, none, none, none, none, none] (tVar 7) (nL [v1, v2]) := fun s => ev_var rfl (dp_same (off_same s) _ _ d1)
      have e2 : ∀ {H' vL x13}, Same H19 H' → EvD K S H' [some (.ref p), some (.ref x), some vR, some (.int (clh R : Nat)), some vT, some (.bl B), x6, some y1, some (.ref L8), some z, some (.ref D), vL, some y2, x13, none, none, none, none, none] (tVar 12) (nL [v2, v1]) := fun s => ev_var rfl (dp_same (off_same s) _ _ d2)
      have i2 : ∀ {a b : Nat}, ∀ ds, items (nL [a, b]) = some ds → ds.length ≤ 60 := fun {a b} => it_sq (b := false) (l := [a, b]) (by simp)
      refine s_seq (s_set (ev_cat (K := K) (S := S) (ds := ds15) (es := [.tuple [nL [v1, v2], nL [v2, v1]], .tuple [nL [v2, v1], nL [v1, v2]], .tuple [nL [v1, v2], nL [v1, v2]], .list [nL [v1, v2], nL [v2, v1]], .tuple [.list ([v1, v2].map nD ++ ([v1, v2].take 1).map nD), nL [v2, v1]], .tuple [nL [v1, v2], nL ([v2, v1].drop 1)]]) kn19 (ev_var rfl dL19) (ev_lst kn19 (ea_cons (ev_var rfl dz19) (ea_cons (ev_tup (ds := [nL [v2, v1], nL [v1, v2]]) kn19 (ea_cons (e2 (Same.refl _)) (ea_cons (e1 (Same.refl _)) ea_nil)) (show 2 ≤ 100 by decide)) (ea_cons (ev_tup (ds := [nL [v1, v2], nL [v1, v2]]) kn19 (ea_cons (e1 (Same.refl _)) (ea_cons (e1 (Same.refl _)) ea_nil)) (show 2 ≤ 100 by decide)) (ea_cons (ev_lst (ds := [nL [v1, v2], nL [v2, v1]]) kn19 (ea_cons (e1 (Same.refl _)) (ea_cons (e2 (Same.refl _)) ea_nil)) (show 2 ≤ 100 by decide)) (ea_cons (ev_tup (ds := [.list ([v1, v2].map nD ++ ([v1, v2].take 1).map nD), nL [v2, v1]]) kn19 (ea_cons (ev_cat (ds := [v1, v2].map nD) (es := ([v1, v2].take 1).map nD) kn19 (e1 (Same.refl _)) (ev_take1 kn19 (e1 (Same.refl _)) (show 1 ≤ 2 by decide)) (show 2 + 1 ≤ 100000 by decide)) (ea_cons (e2 (Same.refl _)) ea_nil)) (show 2 ≤ 100 by decide)) (ea_cons (ev_tup (ds := [nL [v1, v2], nL ([v2, v1].drop 1)]) kn19 (ea_cons (e1 (Same.refl _)) (ea_cons (ev_drop1 kn19 (e2 (Same.refl _))) ea_nil)) (show 2 ≤ 100 by decide)) ea_nil)))))) (show 6 ≤ 100 by decide)) (by rw [ld15]; exact (show 15 + 6 ≤ 100000 by decide)) H19 (Same.refl _) _ fun vL20 H20 s20 d20 => nx_of ?_))
      have ok20 : ∀ d ∈ ds15 ++ [PyData.tuple [nL [v1, v2], nL [v2, v1]], .tuple [nL [v2, v1], nL [v1, v2]], .tuple [nL [v1, v2], nL [v1, v2]], .list [nL [v1, v2], nL [v2, v1]], .tuple [.list ([v1, v2].map nD ++ ([v1, v2].take 1).map nD), nL [v2, v1]], .tuple [nL [v1, v2], nL ([v2, v1].drop 1)]], okS d := fun d hd => by
        rcases List.mem_append.mp hd with h | h
        · exact ok15 d h
        · simp only [List.mem_cons, List.not_mem_nil, or_false] at h
          rcases h with rfl | rfl | rfl | rfl | rfl | rfl
          · exact okS_two i2 i2
          · exact okS_two i2 i2
          · exact okS_two i2 i2
          · exact okS_no fun _ _ e => nomatch e
          · exact okS_two (it_list (by simp)) i2
          · exact okS_two i2 (it_sq (b := false) (by simp))
      have ld20 : (ds15 ++ [PyData.tuple [nL [v1, v2], nL [v2, v1]], .tuple [nL [v2, v1], nL [v1, v2]], .tuple [nL [v1, v2], nL [v1, v2]], .list [nL [v1, v2], nL [v2, v1]], .tuple [.list ([v1, v2].map nD ++ ([v1, v2].take 1).map nD), nL [v2, v1]], .tuple [nL [v1, v2], nL ([v2, v1].drop 1)]]).length = 21 := by rw [List.length_append, ld15]; rfl
      generalize ds15 ++ [PyData.tuple [nL [v1, v2], nL [v2, v1]], .tuple [nL [v2, v1], nL [v1, v2]], .tuple [nL [v1, v2], nL [v1, v2]], .list [nL [v1, v2], nL [v2, v1]], .tuple [.list ([v1, v2].map nD ++ ([v1, v2].take 1).map nD), nL [v2, v1]], .tuple [nL [v1, v2], nL ([v2, v1].drop 1)]] = ds20 at *
      have kn20 := kn19.same s20
      refine s_seq (s_set (ev_cat (K := K) (S := S) (ds := ds20) (es := [.tuple [nL [v1, v2], .list ([v2, v1].map nD ++ [nD (clh R)])], .tuple [nL [v1, v2], nL [v2, v1], nL [v1, v2]]]) kn20 (ev_var rfl d20) (ev_lst kn20 (ea_cons (ev_tup (ds := [nL [v1, v2], .list ([v2, v1].map nD ++ [nD (clh R)])]) kn20 (ea_cons (e1 s20) (ea_cons (ev_cat (ds := [v2, v1].map nD) (es := [nD (clh R)]) kn20 (e2 s20) (ev_lst (ds := [nD (clh R)]) kn20 (ea_cons (ev_var rfl (.int _)) ea_nil) (show 1 ≤ 100 by decide)) (show 2 + 1 ≤ 100000 by decide)) ea_nil)) (show 2 ≤ 100 by decide)) (ea_cons (ev_tup3 kn20 (e1 s20) (e2 s20) (e1 s20)) ea_nil)) (show 2 ≤ 100 by decide)) (by rw [ld20]; exact (show 21 + 2 ≤ 100000 by decide)) H20 (Same.refl _) _ fun vL21 H21 s21 d21 => nx_of ?_))
      have ok21 : ∀ d ∈ ds20 ++ [PyData.tuple [nL [v1, v2], .list ([v2, v1].map nD ++ [nD (clh R)])], .tuple [nL [v1, v2], nL [v2, v1], nL [v1, v2]]], okS d := fun d hd => by
        rcases List.mem_append.mp hd with h | h
        · exact ok20 d h
        · simp only [List.mem_cons, List.not_mem_nil, or_false] at h
          rcases h with rfl | rfl
          · exact okS_two i2 (it_list (by simp))
          · exact okS_no fun _ _ e => nomatch e
      have ld21 : (ds20 ++ [PyData.tuple [nL [v1, v2], .list ([v2, v1].map nD ++ [nD (clh R)])], .tuple [nL [v1, v2], nL [v2, v1], nL [v1, v2]]]).length = 23 := by rw [List.length_append, ld20]; rfl
      generalize ds20 ++ [PyData.tuple [nL [v1, v2], .list ([v2, v1].map nD ++ [nD (clh R)])], .tuple [nL [v1, v2], nL [v2, v1], nL [v1, v2]]] = ds21 at *
      have s1921 := s20.trans s21
      have kn21 := kn19.same s1921
      refine s_if (b_test (t_op (t_op (t_cb1 (t_var rfl (len_d off_sub (dp_same (off_same s1921) _ _ d1) rfl (t_cb1 (t_var rfl (len_d off_sub (dp_same (off_same s1921) _ _ d2) rfl ⟨_, _, rfl, rfl, t_c ⟨_, _, rfl, rfl, _, rfl, ifT (by simp) ?_⟩⟩)))))))))
      refine s_seq (s_set (ev_mapD (K := K) (S := S) false [v1, v2] trD kn21 (e1 s1921) (by simp) (fun _ => rfl) (fun m hm H1 S2 kn1 ho => ev_trD rfl) H21 (Same.refl _) _ fun vt H22 s22 d22 => nx_of ?_))
      have s1922 := s1921.trans s22
      have kn22 := kn19.same s1922
      refine s_set (ev_cat (K := K) (S := S) (ds := ds21) (es := [.tuple [.list ([v1, v2].map trD), nL [v2, v1]], .tuple [nL [v2, v1], .list ([v1, v2].map trD)], .tuple [.tuple ([v1, v2].map nD), .tuple ([v2, v1].map nD)]]) kn22 (ev_var rfl (dp_same (off_same s22) _ _ d21)) (ev_lst kn22 (ea_cons (ev_tup (ds := [.list ([v1, v2].map trD), nL [v2, v1]]) kn22 (ea_cons (ev_var rfl d22) (ea_cons (e2 s1922) ea_nil)) (show 2 ≤ 100 by decide)) (ea_cons (ev_tup (ds := [nL [v2, v1], .list ([v1, v2].map trD)]) kn22 (ea_cons (e2 s1922) (ea_cons (ev_var rfl d22) ea_nil)) (show 2 ≤ 100 by decide)) (ea_cons (ev_tup (ds := [.tuple ([v1, v2].map nD), .tuple ([v2, v1].map nD)]) kn22 (ea_cons (ev_tupof kn22 (e1 s1922)) (ea_cons (ev_tupof kn22 (e2 s1922)) ea_nil)) (show 2 ≤ 100 by decide)) ea_nil))) (show 3 ≤ 100 by decide)) (by rw [ld21]; exact (show 23 + 3 ≤ 100000 by decide)) H22 (Same.refl _) _ fun vL23 H23 s23 d23 => nx_of (key _ _ ⟨_, _, _, vL23, _, rfl, s1519.trans (s1922.trans s23), d23, fun d hd => ?_, by rw [List.length_append, ld21]; exact (show 23 + 3 ≤ 1000 by decide)⟩))
      rcases List.mem_append.mp hd with h | h
      · exact ok21 d h
      · simp only [List.mem_cons, List.not_mem_nil, or_false] at h
        rcases h with rfl | rfl | rfl
        · exact okS_two (it_list (by simp)) i2
        · exact okS_two i2 (it_list (by simp))
        · exact okS_two (it_sq (b := true) (by simp)) (it_sq (b := true) (by simp))
  rintro σ' H17 ⟨x7', x12, x13, vL, ds, rfl, s1517, dL17, ok17, len17⟩
  clear dL15 ok15 ld15
  have sb617 := sb_trans sb615 (sbut s1517)
  have sb717 := sb_trans sb715 (sbut s1517)
  have pt17 := pt15.same s1517
  have kn17 := kn15.same s1517
  have ht17 := htA sb617
  have dR17 := dRA sb617
  have dT17 := dTA sb617
  obtain ⟨L2_, us2, rfl, hs17, a17⟩ := list_at dL17
  replace hs17 : SqL K H17 L2_ us2 := off_sub.seq hs17
  refine s_seq (Or.inl (t_var rfl ⟨L2_, rfl, ⟨_, hs17⟩, ?_⟩))
  refine for_it (walk_list (K := K) (a := L2_) (xs := us2)) (fun i σ' H' => ∃ x8 x14 x15 : Option V, σ' = [some (.ref p), some (.ref x), some vR, some (.int (clh R : Nat)), some vT, some (.bl B), x6, x7', x8, some z, some (.ref D), some (.ref L2_), x12, x13, x14, x15, none, none, none] ∧ Same H17 H') ⟨_, _, _, rfl, Same.refl _⟩ (fun i σ' H' _ ⟨_, _, _, _, s⟩ => s.seq hs17) ?_ ?_
  · rintro i y σ' Ha Hb hi ⟨x8, x14, x15, rfl, sa⟩ ⟨rfl, xi⟩
    obtain ⟨d, hd, dy⟩ := dpa_at a17 xi
    have okd := ok17 d (List.mem_of_getElem? hd)
    have knA : ∀ {H'}, Same H17 H' → Kn S H' := fun {H'} s => kn17.same s
    have htB : ∀ {H'}, Same H17 H' → TabAt K C (off S H') R x := fun {H'} s => ht17.same (off_same s)
    have dRB : ∀ {H'}, Same H17 H' → Dp K (off S H') vR (nLL R) := fun {H'} s => dp_same (off_same s) _ _ dR17
    have dTB : ∀ {H'}, Same H17 H' → Dp K (off S H') vT (nL th) := fun {H'} s => dp_same (off_same s) _ _ dT17
    have dyA : ∀ {H'}, Same H17 H' → Dp K (off S H') y d := fun {H'} s => dp_same (off_same s) _ _ dy
    refine g_name (s_seq (s_set (t_call (a_cons (t_var rfl (a_cons (t_var rfl (a_cons (t_var rfl (a_cons (t_var rfl (a_nil ⟨S, R, vR, th, vT, d, y, rfl, knA sa, dRB sa, tb, dTB sa, tlt, tnd, dyA sa, okd, fun Hc sc' => nx_of ?_⟩))))))))))))
    have sc := sa.trans sc'
    refine s_seq (s_set (t_lst (a_cons (t_call3 (t_var rfl (t_var rfl (t_var rfl ⟨S, R, x, false, th, d, vT, y, rfl, knA sc, htB sc, tb, me, dTB sc, tlt, tnd, dyA sc, okd, fun Hd sd_ => a_nil ⟨le1, fun L9 h9 => nx_of ?_⟩⟩)))))))
    have sd := sc.trans sd_
    have s9' := same_new (o := HO.lst [V.bl (ush R th d)]) h9
    have hL9 : (upd Hd L9 (.lst [V.bl (ush R th d)])) L9 = some (.lst [V.bl (ush R th d)]) := upd_same
    have sd9 := sd.trans s9'
    have nS9 : ¬ S L9 := fun h => (knA sd) L9 h h9
    have h917 : H17 L9 = none := sd.free h9
    generalize upd Hd L9 (.lst [V.bl (ush R th d)]) = He at *
    refine s_seq (s_drop (t_bm (t_var rfl ⟨.inl ⟨rfl, _, sqL hL9⟩, a_cons (t_krr (a_cons (t_var rfl (a_cons (t_var rfl (a_cons (t_var rfl (a_nil ⟨rfl, S, R, x, false, th, d, vT, y, rfl, knA sd9, htB sd9, tb, me, dTB sd9, tlt, tnd, dyA sd9, okd, fun Hf sf => a_nil ⟨L9, [V.bl (ush R th d)], .bl (ush R th d), rfl, rfl, sf _ _ hL9, Nat.lt_of_le_of_lt (show 1 ≤ 1000 by decide) (by decide), nx_of ?_⟩⟩))))))))⟩)))
    have sf9 := sd9.trans sf
    have sg : Same H17 (upd Hf L9 (.lst ([V.bl (ush R th d)] ++ [V.bl (ush R th d)]))) := same_mut sf9 h917
    have dg : Dp K (off S (upd Hf L9 (.lst ([V.bl (ush R th d)] ++ [V.bl (ush R th d)])))) (.ref L9) (.list [.bool (ush R th d), .bool (ush R th d)]) := dp_lst nS9 upd_same (.cons (.bl _) (.cons (.bl _) .nil))
    generalize upd Hf L9 (.lst ([V.bl (ush R th d)] ++ [V.bl (ush R th d)])) = Hg at *
    refine s_if (b_or (b_test (t_op (t_var rfl (t_lst (a_cons (t_var rfl (a_cons (t_var rfl (a_nil ⟨le2, fun p9 hp9 => ?_⟩))))))))))
    have d9 := dp_newL (K := K) (ds := [.bool (ush R th d), .bool (ush R th d)]) (ys := [V.bl (ush R th d), V.bl (ush R th d)]) (knA sg) hp9 (.cons (.bl _) (.cons (.bl _) .nil))
    have sh := same_new (o := HO.lst [V.bl (ush R th d), V.bl (ush R th d)]) hp9
    refine ne_bools (dp_same (off_same sh) _ _ dg) d9 ⟨_, rfl, ifF rfl ?_⟩
    refine b_and (b_val (t_var rfl ⟨_, rfl, if_b (fun hb => b_val (t_var rfl ⟨_, rfl, ifF ?_ (s_next ⟨_, _, _, rfl, sg.trans sh⟩)⟩)) (fun hb => ifF rfl (s_next ⟨_, _, _, rfl, sg.trans sh⟩))⟩))
    exact firm_ush tb me (hB.mpr hb) tlt d
  rintro σ' H18 ⟨x8, x14, x15, rfl, s18⟩
  have sb618 := sb_trans sb617 (sbut s18)
  have sb718 := sb_trans sb717 (sbut s18)
  have pt18 := pt17.same s18
  have sb018 : SameBut p H H18 := sb_trans (sbut s06) sb618
  clear hs17 a17 ok17 dR17 ht17 dT17 kn17 pt17 sb617 sb717 s1517
  refine nx_of ?_
  rcases id uv with ⟨f, rfl⟩ | ⟨nf, v1, v2, h1, h2, ne, nc, nz⟩
  · refine s_seq (Or.inr (i_tup (t_orT (t_var rfl ⟨false, rfl, ifF rfl (t_tup (a_nil ⟨Nat.zero_le _, fun pE hE => ⟨pE, rfl, ⟨_, sqT upd_same⟩, ?_⟩⟩))⟩))))
    have sE := same_new (o := HO.tup []) hE
    refine for_it (walk_tup (K := K) (a := pE) (xs := [])) (fun i σ' H' => σ' = [some (.ref p), some (.ref x), some vR, some (.int (clh R : Nat)), some vT, some (.bl B), x6, x7', x8, some .non, some (.ref D), some (.ref L2_), x12, x13, x14, x15, none, none, none] ∧ Same (upd H18 pE (.tup [])) H') ⟨rfl, Same.refl _⟩ (fun i σ' H' _ ⟨_, s⟩ => sqT (s _ _ upd_same)) (fun i y σ' Ha Hb hi _ _ => by simp at hi) ?_
    rintro σ' H19 ⟨rfl, s19⟩
    refine nx_of (s_ret (t_orV (t_var rfl ⟨_, rfl, ifT (hB.mp f) ?_⟩)))
    exact q H19 (sb_trans sb018 (sbut (sE.trans s19))) (pt18.same (sE.trans s19))
  · have eBf : B = false := Bool.eq_false_iff.mpr fun e => nf (hB.mpr e)
    obtain ⟨aT, xT, rfl, hT, lT, eT⟩ := np_tup nz
    obtain ⟨w1, w2, rfl⟩ : ∃ w1 w2, xT = [w1, w2] := by
      match xT, lT with
      | [w1, w2], _ => exact ⟨w1, w2, rfl⟩
    obtain ⟨l1, xs1, rfl, hl1, f1, n1', _⟩ := new_list (eT 0 w1 _ rfl rfl)
    obtain ⟨l2, xs2, rfl, hl2, f2, n2', _⟩ := new_list (eT 1 w2 _ rfl rfl)
    obtain ⟨nT, hT7⟩ := off_some hT
    have hl17 := hl1
    have hl27 := hl2
    have f0 : H6 aT = none := by
      cases h : H6 aT with
      | none => rfl
      | some o => exact (nT (some_ne h)).elim
    have ne1 : ∀ {b : Addr}, H6 b = none → b ≠ p := fun h e => by rw [e] at h; exact oldp h
    have hT18 : H18 aT = some (.tup [.ref l1, .ref l2]) := sb718 _ _ (ne1 f0) hT7
    have hl118 : H18 l1 = some (.lst xs1) := sb718 _ _ (ne1 f1) hl17
    have hl218 : H18 l2 = some (.lst xs2) := sb718 _ _ (ne1 f2) hl27
    have t1 : aT ≠ l1 := fun e => by rw [e, hl118] at hT18; cases hT18
    have t2 : aT ≠ l2 := fun e => by rw [e, hl218] at hT18; cases hT18
    rw [List.length_map] at n1' n2'
    refine s_seq (Or.inr (i_tup (t_orT (t_var rfl ⟨true, .inr (.inl ⟨_, sqT hT18, rfl⟩), ifT rfl ⟨aT, rfl, ⟨_, sqT hT18⟩, ?_⟩⟩))))
    refine for_it (walk_tup (K := K) (a := aT) (xs := [.ref l1, .ref l2])) (fun i σ' H' => ∃ x16 : Option V, σ' = [some (.ref p), some (.ref x), some vR, some (.int (clh R : Nat)), some vT, some (.bl B), x6, x7', x8, some (.ref aT), some (.ref D), some (.ref L2_), x12, x13, x14, x15, x16, none, none] ∧ SameBut p H6 H' ∧ PotAt H' p ∧ H' aT = some (.tup [.ref l1, .ref l2]) ∧ (∃ ys, H' l1 = some (.lst ys) ∧ ys.length ≤ 2 + i) ∧ ∃ ys, H' l2 = some (.lst ys) ∧ ys.length ≤ 2 + i)
      ⟨_, rfl, sb618, pt18, hT18, ⟨xs1, hl118, by rw [n1']; exact Nat.le_refl _⟩, xs2, hl218, by rw [n2']; exact Nat.le_refl _⟩ (fun i σ' H' _ ⟨_, _, _, _, h, _⟩ => sqT h) ?_ ?_
    · rintro i y σ' Ha Hb hi ⟨x16, rfl, sb, pt, hTa, ⟨ys1, g1, z1⟩, ys2, g2, z2⟩ ⟨rfl, xi⟩
      obtain ⟨l, ys, rfl, g, f, tn, z, hl⟩ : ∃ l ys, y = .ref l ∧ Hb l = some (.lst ys) ∧ H6 l = none ∧ aT ≠ l ∧ ys.length ≤ 2 + i ∧ (l = l1 ∨ l = l2) := by
        match i, hi, xi with
        | 0, _, xi => simp at xi; subst xi; exact ⟨l1, ys1, rfl, g1, f1, t1, z1, .inl rfl⟩
        | 1, _, xi => simp at xi; subst xi; exact ⟨l2, ys2, rfl, g2, f2, t2, z2, .inr rfl⟩
        | i + 2, hi, _ => simp only [List.length_cons, List.length_nil] at hi; omega
      have i2 : i < 2 := hi
      refine g_name (s_if (b_val (t_cb2 (t_var rfl (t_c ⟨_, _, _, _, true, rfl, .ty "list", sq_ty (sqL g), kit_ty (kit_list (.list [])), _, rfl, ifT rfl ?_⟩)))))
      refine s_drop (t_bm (t_var rfl ⟨.inl ⟨rfl, _, sqL g⟩, a_cons (t_c (a_nil ⟨l, ys, .non, rfl, rfl, g, Nat.lt_of_le_of_lt (show ys.length ≤ 1000 by omega) (by decide), nx_of ⟨_, rfl, sb_mut sb f, pt.mut (ne1 f), ?_, ?_, ?_⟩⟩))⟩))
      · rw [upd_ne tn]; exact hTa
      · by_cases e : l1 = l
        · rw [e]; exact ⟨_, upd_same, by rw [List.length_append]; exact Nat.add_le_add_right z 1⟩
        · rw [upd_ne e]; exact ⟨ys1, g1, by omega⟩
      · by_cases e : l2 = l
        · rw [e]; exact ⟨_, upd_same, by rw [List.length_append]; exact Nat.add_le_add_right z 1⟩
        · rw [upd_ne e]; exact ⟨ys2, g2, by omega⟩
    rintro σ' H19 ⟨x16, rfl, sb619, pt19, _⟩
    refine nx_of (s_ret (t_orV (t_var rfl ⟨_, rfl, ifF eBf ?_⟩)))
    have kn19 := kn_bt kn6 sb619 pt19.some
    refine t_call (a_cons (t_var rfl (a_cons (t_var rfl (a_cons (t_var rfl (a_cons (t_call2 (t_var rfl (t_var rfl ⟨S, R, x, false, th, vT, rfl, kn19, htA sb619, tb, me, dTA sb619, tlt, tnd, fun z3 H20 s20 uv3 => a_nil ?_⟩))))))))))
    rcases uv3 with ⟨f, _⟩ | ⟨_, v3, v4, h3, h4, ne34, nc34, nz3⟩
    · exact (nf f).elim
    · have sb620 := sb_trans sb619 (sbut s20)
      refine ⟨S, R, vR, th, vT, .tuple [nL [v3, v4], nL [v4, v3]], z3, rfl, kn19.same s20, dRA sb620, tb, dTA sb620, tlt, tnd, (np_off nz3 fun b hb => kn19 b hb).dp, okS_two (it_sq (b := false) (by simp)) (it_sq (b := false) (by simp)), fun H21 s21 => ?_⟩
      rw [ush_two me tlt h3 h4 ne34 nc34]
      exact q H21 (sb_trans (sbut s06) (sb_trans sb620 (sbut s21))) (pt19.same (s20.trans s21))
end
end K31

set_option maxRecDepth 100000
set_option maxHeartbeats 8000000
namespace K31
open PySem PySem.Spec PyProof.Rows L2 Kh
theorem i_lst {K : PySem.W.Frag} {σ : L2.St} {tl : TE} {H : Hp} {R : It → Hp → Prop} (h : tl σ H fun x H1 => ∃ a, x = .ref a ∧ (∃ xs, SqL K H1 a xs) ∧ R (Itl K a) H1) : iList K tl σ H R := h
theorem cut_takeA (xs : List V) (m : Nat) : cutV xs none (some (m : Nat)) = xs.take m := by
  by_cases h : m ≤ xs.length
  · exact cut_take xs m h
  · unfold cutV
    rw [HT.sIx_none, HT.sIx_nat, List.drop_zero, List.take_of_length_le (by omega : xs.length ≤ m), List.take_of_length_le (by omega)]
theorem sl_takeA {K : PySem.W.Frag} {α : Type} {S : Addr → Prop} {H : Hp} {x : V} {ms : List α} {f : α → PyData} {m : Nat} {Q : VK} (kn : Kn S H) (hx : Dp K (off S H) x (.list (ms.map f)))
    (q : ∀ u H', Same H H' → Dp K (off S H') u (.list ((ms.take m).map f)) → Q u H') : rSlL K x none (some (m : Nat)) H Q := by
  obtain ⟨l, xs, rfl, h1, d1⟩ := list_at hx
  refine ⟨l, xs, rfl, off_sub.seq h1, fun p hp => ?_⟩
  rw [cut_takeA]
  exact q _ _ (same_new hp) (dp_newL kn hp (by rw [List.map_take]; exact dpa_take m d1))
theorem shd_frD (o : Option (List Nat)) : Shd (frD o) := by
  cases o with
  | none => exact ⟨by simp [frD, PyData.canLay0], by simp [frD, PyData.depth]⟩
  | some l => exact shd_nL l
/-- [x, x] != [x, x] of what is read -/
theorem ne_frs {K : PySem.W.Frag} {S : Addr → Prop} {H : Hp} {u v : V} {o : Option (List Nat)} {Q : VK} (h1 : Dp K (off S H) u (.list [frD o, frD o])) (h2 : Dp K (off S H) v (.list [frD o, frD o])) (q : Q (.bl false) H) : rNeD K u v H Q := by
  have sh : SeqAt.shaped (.list [frD o, frD o]) = true := shaped_list fun d hd => by
    simp only [List.mem_cons, List.not_mem_nil, or_false, or_self] at hd
    subst hd
    exact shd_frD o
  refine ⟨_, _, dp_same off_sub _ _ h1, dp_same off_sub _ _ h2, sh, sh, ?_⟩
  have e : PyData.eqv (.list [frD o, frD o]) (.list [frD o, frD o]) = true := by
    rw [PyData.eqv, PyData.eqvAll, PyData.eqvAll, PyData.eqvAll, eqv_frD, decide_eq_true rfl]; rfl
  rw [e]; exact q
theorem fr_len {R : List (List Nat)} {th sh l : List Nat} (h : fr R th sh = some l) : l.length ≤ th.length := by
  obtain ⟨i, _, rfl⟩ := List.mem_map.mp (List.mem_of_find?_eq_some h)
  exact inn_len _ _ _
section
variable {P : Program} {w : World} {K : PySem.W.Frag} {mg : Str → Option Value} {base : Heap} {a : Nat → Addr} {fd : Nat → FuncData} {C : Addr} {tk : Nat → Tok}
def spRight : Sp := fun vs H Q _ => ∃ p : Addr, vs = [.ref p] ∧ PotAt H p ∧ ∀ H', SameBut p H H' → Q (.bl true) H'
theorem ok__law_right (T : Txt K mg a fd C tk) (U : TxC K mg a C) (D : TxD K C) (kw_read_of : kwR3 K (fd 20) "table" "thresholds" "shower") (kw_are_firm : kwR K (fd 22) "table" "thresholds") (kw_unlike_showers : kwR K (fd 23) "table" "thresholds") (kw_are_unlike_showers : kwR3 K (fd 25) "table" "thresholds" "value") : FnOk P w K mg base CX0 12 (a 38) (fd 38) ["_law_pot_here"] spRight := by
  have G_Table_init := ok_Table_init (P := P) (w := w) (base := base) T U
  have G_Table_eq := ok_Table_eq (P := P) (w := w) (base := base) T U D
  have G_read_of := ok_read_of (P := P) (w := w) (base := base) T U
  have G__law_melting := ok__law_melting (P := P) (w := w) (base := base) T
  have G__law_join := ok__law_join (P := P) (w := w) (base := base) T
  have G__law_mixed := ok__law_mixed (P := P) (w := w) (base := base) T
  have G__law_draw := ok__law_draw (P := P) (w := w) (base := base) T
  have G__law_two := ok__law_two (P := P) (w := w) (base := base) T
  have G__law_read := ok__law_read (P := P) (w := w) (base := base) T
  have G__law_firm_right := ok__law_firm_right (P := P) (w := w) (base := base) T U kw_are_firm kw_unlike_showers kw_are_unlike_showers
  refine T.F__law_right.ok sc__law_right (fun vs H Q E h => by obtain ⟨_, rfl, _⟩ := h; rfl) (fun cdv A outer s H vs Q E hr h => ?_)
  obtain ⟨p, rfl, pot, q⟩ := h
  refine ⟨_, (pss_cons (ps_set (i := 1) sc__law_right.nd rfl (Or.inr rfl) (pe_call G__law_melting (hr.mono (by omega)) (by rfl) T.m__law_melting T.F__law_melting.kp T.b__law_melting .nil pass0 (pa_cons (pv 0) pa_nil)))
      (pss_cons (ps_par (i := 2) (j := 3) (by rfl) sc__law_right.nd rfl rfl (by decide) rfl rfl (pa_cons (pe_make U.M_Table G_Table_init (hr.mono (by omega)) (by rfl) U.m_Table T.b_Table_init .nil pass0 (pa_cons (pv 1) pa_nil)) (pa_cons (pe_listRg rfl (by rfl) T.z_list (prg_1 (by rfl) T.z_range (pe_callB (k_len (K := K)) (by rfl) T.z_len (by decide +kernel) (pa_cons (pv 1) pa_nil)))) pa_nil)) (by rfl))
      (pss_cons (ps_asg (pe_tup (pa_cons (pe_call G__law_join (hr.mono (by omega)) (by rfl) T.m__law_join T.F__law_join.kp T.b__law_join .nil pass0 (pa_cons (pv 1) (pa_cons (pv 3) pa_nil))) (pa_cons (pe_lst pa_nil) pa_nil))) (pg_tup rfl (pgs_cons (pg_name (i := 4) sc__law_right.nd rfl (Or.inr rfl)) (pgs_cons (pg_name (i := 5) sc__law_right.nd rfl (Or.inl rfl)) pgs_nil))))
      (pss_cons (ps_for PassesOwn.never rfl (k_pi (K := K) (pe_call G__law_mixed (hr.mono (by omega)) (by rfl) T.m__law_mixed T.F__law_mixed.kp T.b__law_mixed .nil pass0 (pa_cons (pv 0) (pa_cons (pv 3) pa_nil)))) (pg_name (i := 6) sc__law_right.nd rfl (Or.inr rfl))
        (pss_one (ps_expr (pe_bm PySem.F.plainAttrs_list PySem.F.slot_list_extend PySem.F.type_list_extend (k_ext (K := K)) (pv 5) (pa_cons (pe_ifExp (pt_val (pe_callB (k_all (K := K) rfl) (by rfl) T.z_all (by decide +kernel) (pa_cons (pe_lc (own := [("_law_one", 9)]) (g := gName 9) (tt := tYes) rfl sc__law_right.nd (k_pi (K := K) (pv 5)) (blkOk_by (own := [("_law_one", 9)]) (N := _law_right_N) (sc := defScope _law_right_s) (by decide +kernel)) (fun _ _ _ _ _ => (pg_name (i := 9) sc__law_right.nd rfl (Or.inl rfl))) (fun _ _ _ _ _ => pts_nil) (fun _ _ _ _ _ => (pe_cmpR op_eq (pe_ix (k_ix (K := K)) (pe_ix (k_ix (K := K)) (pv 1) (pv 6) (fun _ _ => rfl)) (pv 9) (fun _ _ => rfl)) (pv 4) (nomark _)))) pa_nil))) (pe_lst (pa_cons (pv 6) pa_nil)) (pe_lst pa_nil)) pa_nil)))))
      (pss_cons (ps_for PassesOwn.never rfl (k_pi (K := K) (pe_lst (pa_cons (pe_slice (k_sl (K := K)) (pe_call G__law_mixed (hr.mono (by omega)) (by rfl) T.m__law_mixed T.F__law_mixed.kp T.b__law_mixed .nil pass0 (pa_cons (pv 0) (pa_cons (pv 3) pa_nil))) po_none (po_some (pe_call G__law_draw (hr.mono (by omega)) (by rfl) T.m__law_draw T.F__law_draw.kp T.b__law_draw .nil pass0 (pa_cons (pv 0) (pa_cons pe_int pa_nil))))) (pa_cons (pe_slice (k_sl (K := K)) (pv 5) po_none (po_some (pe_op op_add pe_int (pe_call G__law_draw (hr.mono (by omega)) (by rfl) T.m__law_draw T.F__law_draw.kp T.b__law_draw .nil pass0 (pa_cons (pv 0) (pa_cons pe_int pa_nil)))))) pa_nil)))) (pg_name (i := 7) sc__law_right.nd rfl (Or.inl rfl))
        (pss_cons (ps_for PassesOwn.never rfl (pi_range1 (by rfl) T.z_range (pa_cons pe_int pa_nil)) (pg_name (i := 8) sc__law_right.nd rfl (Or.inl rfl))
          (pss_cons (ps_asg (pe_call G__law_two (hr.mono (by omega)) (by rfl) T.m__law_two T.F__law_two.kp T.b__law_two .nil pass0 (pa_cons (pv 0) (pa_cons (pv 1) pa_nil))) (pg_tup rfl (pgs_cons (pg_name (i := 9) sc__law_right.nd rfl (Or.inl rfl)) (pgs_cons (pg_name (i := 10) sc__law_right.nd rfl (Or.inl rfl)) pgs_nil))))
          (pss_cons (ps_set (i := 11) sc__law_right.nd rfl (Or.inl rfl) (pe_call G__law_read (hr.mono (by omega)) (by rfl) T.m__law_read T.F__law_read.kp T.b__law_read .nil pass0 (pa_cons (pv 1) (pa_cons (pv 7) (pa_cons (pv 9) pa_nil)))))
          (pss_cons (ps_set (i := 12) sc__law_right.nd rfl (Or.inl rfl) (pe_lst (pa_cons (pe_call G_read_of (hr.mono (by omega)) (by rfl) T.m_read_of T.F_read_of.kp T.b_read_of .nil pass0 (pa_cons (pv 2) (pa_cons (pv 7) (pa_cons (pv 9) pa_nil)))) pa_nil)))
          (pss_cons (ps_expr (pe_bm PySem.F.plainAttrs_list PySem.F.slot_list_append PySem.F.type_list_append mt_append (pv 12) (pa_cons (pe_kwR (ks := ["shower", "thresholds", "table"]) G_read_of (hr.mono (by omega)) (by rfl) T.m_read_of T.F_read_of.kp kw_read_of (pk_cons (pe_callTy (k_tup (K := K)) (by rfl) T.z_tuple (by decide +kernel) (pa_cons (pv 9) pa_nil)) (pk_cons (pe_callTy (k_tup (K := K)) (by rfl) T.z_tuple (by decide +kernel) (pa_cons (pv 7) pa_nil)) (pk_cons (pv 2) pk_nil)))) pa_nil)))
          (pss_cons (ps_if (PW.pt (pw_or (pt_cmpR (k_neD (K := K) hr.units) (pv 12) (pe_lst (pa_cons (pv 11) (pa_cons (pv 11) pa_nil))) (nomark _)) (pw_or1 (pt_cmpR (k_neD (K := K) hr.units) (pe_call G_read_of (hr.mono (by omega)) (by rfl) T.m_read_of T.F_read_of.kp T.b_read_of .nil pass0 (pa_cons (pv 2) (pa_cons (pv 7) (pa_cons (pv 10) pa_nil)))) (pe_call G__law_read (hr.mono (by omega)) (by rfl) T.m__law_read T.F__law_read.kp T.b__law_read .nil pass0 (pa_cons (pv 1) (pa_cons (pv 7) (pa_cons (pv 10) pa_nil)))) (nomark _)))))
            (pss_one (ps_ret pe_bl)) pss_nil)
          (pss_cons (ps_if (pt_cmpR op_notN (pe_ix (k_ix (K := K)) (pv 12) pe_int (fun _ _ => rfl)) pe_non (nomark _))
            (pss_one (ps_expr (pe_bm PySem.F.plainAttrs_list PySem.F.slot_list_append PySem.F.type_list_append mt_append (pe_ix (k_ix (K := K)) (pv 12) pe_int (fun _ _ => rfl)) (pa_cons pe_non pa_nil)))) pss_nil)
          (pss_one (ps_if (pt_cmpR (k_neD (K := K) hr.units) (pe_call G_read_of (hr.mono (by omega)) (by rfl) T.m_read_of T.F_read_of.kp T.b_read_of .nil pass0 (pa_cons (pv 2) (pa_cons (pv 7) (pa_cons (pv 9) pa_nil)))) (pv 11) (nomark _))
            (pss_one (ps_ret pe_bl)) pss_nil)))))))))
        (pss_one (ps_if (pt_not (pt_val (pe_call G__law_firm_right (hr.mono (by omega)) (by rfl) T.m__law_firm_right T.F__law_firm_right.kp T.b__law_firm_right .nil pass0 (pa_cons (pv 0) (pa_cons (pv 2) (pa_cons (pv 1) (pa_cons (pv 4) (pa_cons (pv 7) pa_nil))))))))
          (pss_one (ps_ret pe_bl)) pss_nil))))
      (pss_one (ps_ret (pe_cmpR (op_eqI (runsOk G_Table_eq T.b_Table_eq) (hr.mono (by omega)) U.me_eq) (pv 2) (pe_make U.M_Table G_Table_init (hr.mono (by omega)) (by rfl) U.m_Table T.b_Table_init .nil pass0 (pa_cons (pv 1) pa_nil)) (nomark _))))))))), ?_⟩
  obtain ⟨S, hSd⟩ : ∃ S : Addr → Prop, S = fun a => a = p := ⟨_, rfl⟩
  have kn : Kn S H := fun b z => by rw [hSd] at z; rw [z]; exact pot.some
  have hS : S p := by rw [hSd]
  clear hSd
  refine s_seq (s_set (t_call1 (t_var rfl ⟨S, p, rfl, kn, hS, pot, fun vR H1 H2 R sb1 pt1 s2 tb me np => nx_of ?_⟩)))
  have kn1 := kn_bt kn sb1 pt1.some
  have dR : Dp K (off S H2) vR (nLL R) := (np_off np fun z hz => kn1 z hz).dp
  have kn2 := kn1.same s2
  have pt2 := pt1.same s2
  have sb2 := sb_trans sb1 (sbut s2)
  clear np
  have n7 := tb.few
  have n1 := tb.pos
  refine s_seq (a_cons (mk_table R tb kn2 (fun Q q => t_var rfl (q _ _ (Same.refl _) dR)) fun x H3 s3 ht3 => a_cons (t_cb1 (t_var rfl (len_d off_sub (dp_same (off_same s3) _ _ dR) rfl ⟨_, rfl, rg_ok (by rw [List.length_map]; omega), fun lV hV => a_nil ⟨_, _, rfl, nx_of ?_⟩⟩)))))
  rw [rg_val, List.length_map]
  have sV := same_new (o := HO.lst (ivs (List.range R.length))) hV
  have dV : Dp K (off S (upd H3 lV (.lst (ivs (List.range R.length))))) (.ref lV) (nL (List.range R.length)) := dp_newL (K := K) (kn2.same s3) hV (nats_dpa (List.range R.length))
  have s24 := s3.trans sV
  have ht4 := ht3.same (off_same sV)
  have dR4 := dp_same (off_same s24) _ _ dR
  have kn4 := kn2.same s24
  have pt4 := pt2.same s24
  have sb4 := sb_trans sb2 (sbut s24)
  generalize upd H3 lV (.lst (ivs (List.range R.length))) = H4 at *
  clear s3 sV hV s24 kn1 kn2 pt1 pt2 sb1 sb2 s2 dR ht3
  have rl : ∀ m ∈ List.range R.length, m < R.length := fun m hm => List.mem_range.mp hm
  have rn := range_ne tb
  refine s_seq (s_asgg (t_tup (a_cons (ev_call (K := K) (S := S) (enc := fun x : List (List Nat) × List Nat => [nLL x.1, nL x.2]) (pre := fun x => Tb x.1 ∧ x.2 ≠ [] ∧ (∀ n ∈ x.2, n < x.1.length) ∧ x.2.length ≤ 1000) (f := fun x => nD (jn x.1 x.2)) (R, List.range R.length) kn4 (ea_cons (ev_var rfl dR4) (ea_cons (ev_var rfl dV) ea_nil)) ⟨tb, rn, rl, by show (List.range R.length).length ≤ 1000; rw [List.length_range]; omega⟩ H4 (Same.refl _) _ fun vC H5 s5 dC => a_cons (t_lst0 fun LA hA => a_nil ⟨le2, fun r hr => ⟨r, [vC, .ref LA], rfl, sqT upd_same, rfl, _, [.ref LA], rfl, _, [], rfl, rfl, nx_of ?_⟩⟩)))))
  replace dC : Dp K (off S H5) vC (nD (clh R)) := dC
  cases dC
  have sA := same_new (o := HO.lst []) hA
  have sr := same_new (o := HO.tup [V.int (clh R : Nat), .ref LA]) hr
  have hA6 : (upd (upd H5 LA (.lst [])) r (.tup [V.int (clh R : Nat), .ref LA])) LA = some (.lst []) := sr _ _ upd_same
  have s56 := sA.trans sr
  generalize upd (upd H5 LA (.lst [])) r (.tup [V.int (clh R : Nat), .ref LA]) = H6 at *
  clear sA sr hr
  have s46 := s5.trans s56
  have hA4 : H4 LA = none := s5.free hA
  have Lp : LA ≠ p := fun e => pt4.some (e ▸ hA4)
  have knA : ∀ {H'}, SameBut p H4 H' → PotAt H' p → Kn S H' := fun {H'} sb pt => kn_bt kn4 sb pt.some
  have htA : ∀ {H'}, SameBut p H4 H' → TabAt K C (off S H') R x := fun {H'} sb => ht4.same (off_bt hS sb)
  have dRA : ∀ {H'}, SameBut p H4 H' → Dp K (off S H') vR (nLL R) := fun {H'} sb => dp_same (off_bt hS sb) _ _ dR4
  have dVA : ∀ {H'}, SameBut p H4 H' → Dp K (off S H') (.ref lV) (nL (List.range R.length)) := fun {H'} sb => dp_same (off_bt hS sb) _ _ dV
  have pt6 := pt4.same s46
  have sb46 : SameBut p H4 H6 := sbut s46
  have nSA : ¬ S LA := fun h => kn4 LA h hA4
  have kn6 : Kn (plus S LA) H6 := ((kn4.same s46)).plus (some_ne hA6)
  have dV6 : Dp K (off (plus S LA) H6) (.ref lV) (nL (List.range R.length)) := dp_same (off_plus hA s56) _ _ (dp_same (off_same s5) _ _ dV)
  refine s_seq (Or.inl (i_lst (t_call2 (t_var rfl (t_var rfl (mix_nums (S := plus S LA) kn6 (.inl hS) pt6 dV6 (by rw [List.length_range]; omega) fun u H7 ms sb67 pt7 pm du => ?_))))))
  obtain ⟨a7, xs7, rfl, hs7, ha7⟩ := list_at du
  have ex7 := dpa_nats ha7
  subst ex7
  have hA7 : H7 LA = some (.lst []) := sb67 _ _ Lp hA6
  have sb47 := sb_trans sb46 sb67
  refine ⟨a7, rfl, ⟨_, off_sub.seq hs7⟩, ?_⟩
  have mlt : ∀ m ∈ ms, m < R.length := fun m hm => rl m (pm.mem_iff.mp hm)
  have mnd : ms.Nodup := pm.nodup_iff.mpr List.nodup_range
  have ml : ms.length = R.length := by rw [pm.length_eq, List.length_range]
  refine for_it (walk_list (K := K) (a := a7) (xs := ms.map fun n : Nat => V.int (n : Nat))) (fun i σ' H' => ∃ (x6 : Option V) (ls : List Nat), σ' = [some (.ref p), some vR, some (.ref x), some (.ref lV), some (.int (clh R : Nat)), some (.ref LA), x6, none, none, none, none, none, none] ∧ Same (off (plus S LA) H7) (off (plus S LA) H') ∧ SameBut p H4 H' ∧ PotAt H' p ∧ H' LA = some (.lst (ivs ls)) ∧ ls.Sublist (ms.take i)) ⟨_, [], rfl, Same.refl _, sb47, pt7, hA7, List.nil_sublist _⟩ (fun i σ' H' _ ⟨_, _, _, z, _⟩ => off_sub.seq (z.seq hs7)) ?_ ?_
  · rintro i y σ' Ha Hb hi ⟨x6, ls, rfl, z, sb, pt, hL, sub⟩ ⟨rfl, xi⟩
    rw [List.getElem?_map, Option.map_eq_some_iff] at xi
    obtain ⟨m, hm, rfl⟩ := xi
    have hmem := List.mem_of_getElem? hm
    have lmem : ∀ n ∈ ls, n ∈ ms := fun n hn => List.mem_of_mem_take (sub.subset hn)
    have lfew : ls.length ≤ 7 := by
      have := sub.length_le
      rw [List.length_take] at this
      omega
    have kb := knA sb pt
    have dA : Dp K (off S Hb) (.ref LA) (nL ls) := dp_lst nSA hL (nats_dpa ls)
    refine g_name (s_drop (t_bm (t_var rfl ⟨.inl ⟨rfl, _, sqL hL⟩, a_cons (t_if (b_val (ev_all (ev_bools (K := K) (S := S) false ls (fun m' => decide (at_ R m m' = clh R)) kb (ev_var rfl dA) (by omega) (fun _ => rfl) fun m' hm' H4 S4 kn4 ho => ev_eqn (ev_rcG (K := K) (S := S4) tb rfl (dp_same ho _ _ (dRA sb)) (ev_var rfl (.int _)) (ev_var rfl (.int _)) (mlt m hmem) (mlt m' (lmem m' hm'))) (ev_var rfl (.int _))) Hb (Same.refl _) _ fun b Hc sc db => ?_)))⟩)))
    cases db
    refine ⟨_, rfl, if_b (fun _ => t_lst (a_cons (t_var rfl (a_nil ⟨le1, fun pv hv => a_nil ⟨LA, pv, ivs ls, ivs [m], rfl, rfl, (sc.trans (same_new hv)) _ _ hL, .inl (sqL upd_same), ?_, nx_of ?_⟩⟩)))) (fun _ => t_lst0 fun pv hv => a_nil ⟨LA, pv, ivs ls, [], rfl, rfl, (sc.trans (same_new hv)) _ _ hL, .inl (sqL upd_same), ?_, nx_of ?_⟩)⟩
    · rw [List.length_map]
      exact Nat.le_trans (show ls.length + 1 ≤ 1000 by omega) (by decide)
    · have s := sc.trans (same_new (o := HO.lst (ivs [m])) hv)
      exact ⟨some (.int (m : Nat)), ls ++ [m], rfl, z.trans ((off_same s).trans (off_mut' (.inr rfl))), sb_mut (sb_trans sb (sbut s)) hA4, (pt.same s).mut Lp, by rw [upd_same]; show _ = some (HO.lst (ivs (ls ++ [m]))); rw [show ivs (ls ++ [m]) = ivs ls ++ ivs [m] from List.map_append], by rw [take_snoc' hm]; exact sub.append (List.Sublist.refl _)⟩
    · rw [List.length_map]
      exact Nat.le_trans (show ls.length + 0 ≤ 1000 by omega) (by decide)
    · have s := sc.trans (same_new (o := HO.lst []) hv)
      exact ⟨some (.int (m : Nat)), ls, rfl, z.trans ((off_same s).trans (off_mut' (.inr rfl))), sb_mut (sb_trans sb (sbut s)) hA4, (pt.same s).mut Lp, by rw [upd_same, List.append_nil], by rw [take_snoc' hm]; exact sub.trans (List.sublist_append_left _ _)⟩
  rintro σ' H8 ⟨x6, ap, rfl, _, sb48, pt8, hA8, apsub⟩
  rw [List.length_map, List.take_length] at apsub
  have aplt : ∀ n ∈ ap, n < R.length := fun n hn => mlt n (apsub.subset hn)
  have apnd : ap.Nodup := mnd.sublist apsub
  clear hs7 ha7 hA7 sb67 pt7 du sb47 kn6 dV6 pt6 sb46 hA6 s56 hA dV ht4
  refine nx_of (s_seq (Or.inl (i_lst (t_lst (a_cons (t_sl (t_call2 (t_var rfl (t_var rfl (mix_nums (knA sb48 pt8) hS pt8 (dVA sb48) (by rw [List.length_range]; omega) fun u9 H9 ms9 sb89 pt9 pm9 d9 => o_none (o_some (t_call2 (t_var rfl (t_c ⟨p, 4, rfl, pt9, by decide, by decide, fun k1 H10 hk1 sb910 pt10 => ⟨_, rfl, ?_⟩⟩))))))))))))))
  have sb810 := sb_trans sb89 sb910
  have sb410 := sb_trans sb48 sb810
  refine sl_takeA (ms := ms9) (f := nD) (m := k1) (knA sb410 pt10) (dp_same (off_bt hS sb910) _ _ d9) fun u1 H11 s11 du1 => ?_
  have pt11 := pt10.same s11
  have sb811 := sb_trans sb810 (sbut s11)
  refine a_cons (t_sl (t_var rfl (o_none (o_some (t_op (t_c (t_call2 (t_var rfl (t_c ⟨p, 4, rfl, pt11, by decide, by decide, fun k2 H12 hk2 sb1112 pt12 => ⟨_, _, rfl, rfl, _, rfl, ?_⟩⟩)))))))))
  have sb812 := sb_trans sb811 sb1112
  have sb412 := sb_trans sb48 sb812
  have hA12 := sb812 _ _ Lp hA8
  rw [show (1 : Int) + (k2 : Int) = ((1 + k2 : Nat) : Int) by omega]
  refine sl_takeA (ms := ap) (f := nD) (m := 1 + k2) (knA sb412 pt12) (dp_lst nSA hA12 (nats_dpa ap)) fun u2 H13 s13 du2 => a_nil ⟨le2, fun pL hL => ⟨pL, rfl, ⟨_, sqL upd_same⟩, ?_⟩⟩
  have s14 := same_new (o := HO.lst [u1, u2]) hL
  have sb1114 := sb_trans sb1112 (sbut (s13.trans s14))
  have sb414 := sb_trans sb48 (sb_trans sb811 sb1114)
  have pt14 := (pt12.same s13).same s14
  have hL14 : (upd H13 pL (.lst [u1, u2])) pL = some (.lst [u1, u2]) := upd_same
  have e1 : Dp K (off S (upd H13 pL (.lst [u1, u2]))) u1 (nL (ms9.take k1)) := dp_same (off_bt hS sb1114) _ _ du1
  have e2 : Dp K (off S (upd H13 pL (.lst [u1, u2]))) u2 (nL (ap.take (1 + k2))) := dp_same (off_same s14) _ _ du2
  have pL_p : pL ≠ p := fun e => by
    have := (pt12.same s13).some
    rw [← e] at this
    exact this hL
  have m9lt : ∀ n ∈ ms9, n < R.length := fun n hn => rl n (pm9.mem_iff.mp hn)
  have m9nd : ms9.Nodup := pm9.nodup_iff.mpr List.nodup_range
  generalize upd H13 pL (.lst [u1, u2]) = H14 at *
  clear sb1114 sb811 sb812 sb412 sb410 sb810 sb89 sb910 sb1112 s11 s13 s14 du1 du2 hA12 pt12 pt11 pt10 pt9 d9 hL hA8 sb48 pt8
  have kn14 := knA sb414 pt14
  refine for_it (walk_list (K := K) (a := pL) (xs := [u1, u2])) (fun i σ' H' => ∃ x7 x8 x9 x10 x11 x12 : Option V, σ' = [some (.ref p), some vR, some (.ref x), some (.ref lV), some (.int (clh R : Nat)), some (.ref LA), x6, x7, x8, x9, x10, x11, x12] ∧ SameBut p H14 H' ∧ PotAt H' p) ⟨_, _, _, _, _, _, rfl, sbut (Same.refl _), pt14⟩ (fun i σ' H' _ ⟨_, _, _, _, _, _, _, sb, _⟩ => sqL (sb _ _ pL_p hL14)) ?_ ?_
  · rintro i y σ' Ha Hb hi ⟨x7, x8, x9, x10, x11, x12, rfl, sb, pt⟩ ⟨rfl, xi⟩
    obtain ⟨th, dy, tlt, tnd⟩ : ∃ th, Dp K (off S H14) y (nL th) ∧ (∀ n ∈ th, n < R.length) ∧ th.Nodup := by
      match i, hi, xi with
      | 0, _, xi => simp at xi; subst xi; exact ⟨_, e1, fun n hn => m9lt n (List.mem_of_mem_take hn), m9nd.sublist (List.take_sublist _ _)⟩
      | 1, _, xi => simp at xi; subst xi; exact ⟨_, e2, fun n hn => aplt n (List.mem_of_mem_take hn), apnd.sublist (List.take_sublist _ _)⟩
      | i + 2, hi, _ => simp only [List.length_cons, List.length_nil] at hi; omega
    have dyA : ∀ {H'}, SameBut p H14 H' → Dp K (off S H') y (nL th) := fun {H'} sb => dp_same (off_bt hS sb) _ _ dy
    refine g_name (s_seq ?_)
    show iRng1 (tCons _ tNil) _ _ _
    refine r_rng1 (a_cons (t_c (a_nil ⟨3, rfl, by decide, by decide, ?_⟩)))
    refine for_it walk_range (fun i σ' H' => ∃ x8 x9 x10 x11 x12 : Option V, σ' = [some (.ref p), some vR, some (.ref x), some (.ref lV), some (.int (clh R : Nat)), some (.ref LA), x6, some y, x8, x9, x10, x11, x12] ∧ SameBut p H14 H' ∧ PotAt H' p) ⟨_, _, _, _, _, rfl, sb, pt⟩ (fun _ _ _ _ _ => trivial) ?_ ?_
    · rintro j x0 σ' Hc Hd hj ⟨x8, x9, x10, x11, x12, rfl, sb1, pt1⟩ ⟨rfl, rfl⟩
      have sbA := sb_trans sb414 sb1
      refine g_name (s_seq (s_asgg (t_call2 (t_var rfl (t_var rfl ⟨S, p, R, vR, rfl, knA sbA pt1, hS, pt1, dRA sbA, tb, fun m1 m2 u H15 sb15 pt15 ne1 lt1 sm l4 l6 du => g_tup2 du fun y1 y2 dy1 dy2 => nx_of ?_⟩)))))
      have ne2 : m2 ≠ [] := fun e => by
        obtain ⟨n, hn⟩ := List.exists_mem_of_ne_nil _ ne1
        have := (sm n).mpr hn
        rw [e] at this; cases this
      have lt2 : ∀ n ∈ m2, n < R.length := fun n hn => lt1 n ((sm n).mp hn)
      have sb1415 := sb_trans sb1 sb15
      have sb415 := sb_trans sb414 sb1415
      have kn15 := knA sb415 pt15
      refine s_seq (s_set (ev_call (K := K) (S := S) (enc := eLR) (f := fun x => frD (fr x.1 x.2.1 x.2.2)) (R, th, m1) kn15 (ea_cons (ev_var rfl (dRA sb415)) (ea_cons (ev_var rfl (dyA sb1415)) (ea_cons (ev_var rfl dy1) ea_nil))) ⟨tb, tlt, tnd, ne1, lt1, by show m1.length ≤ 1000; omega⟩ H15 (Same.refl _) _ fun vd H16 s16 dd => nx_of ?_))
      replace dd : Dp K (off S H16) vd (frD (fr R th m1)) := dd
      have sb1416 := sb_trans sb1415 (sbut s16)
      have sb416 := sb_trans sb414 sb1416
      have pt16 := pt15.same s16
      have kn16 := kn15.same s16
      have ht16 := htA sb416
      have dR16 := dRA sb416
      have dy16 := dyA sb1416
      replace dy1 := dp_same (off_same s16) _ _ dy1
      replace dy2 := dp_same (off_same s16) _ _ dy2
      clear sbA kn15 sb415 sb1415 s16 sb15 pt15 du
      refine s_seq (s_set (t_lst (a_cons (t_call3 (t_var rfl (t_var rfl (t_var rfl ⟨S, R, x, false, false, th, m1, y, y1, rfl, kn16, ht16, tb, me, dy16, dy1, tlt, tnd, ne1, lt1, by omega, fun v1 H17 s17 fv1 => a_nil ⟨le1, fun LT hLT => nx_of ?_⟩⟩)))))))
      have hLT18 : (upd H17 LT (.lst [v1])) LT = some (.lst [v1]) := upd_same
      have s1718 := same_new (o := HO.lst [v1]) hLT
      have s1618 := s17.trans s1718
      have hLT16 : H16 LT = none := s17.free hLT
      have nSLT : ¬ S LT := fun h => kn16 LT h hLT16
      generalize upd H17 LT (.lst [v1]) = H18 at *
      have kn18 := kn16.same s1618
      refine s_seq (s_drop (t_bm (t_var rfl ⟨.inl ⟨rfl, _, sqL hLT18⟩, a_cons (t_krr (a_cons (ev_tupof (K := K) (S := S) (l := m1) kn18 (ev_var rfl (dp_same (off_same s1618) _ _ dy1)) H18 (Same.refl _) _ fun q1 H19 s19 dq1 => a_cons (ev_tupof (K := K) (S := S) (l := th) (kn18.same s19) (ev_var rfl (dp_same (off_same (s1618.trans s19)) _ _ dy16)) H19 (Same.refl _) _ fun q2 H20 s20 dq2 => a_cons (t_var rfl (a_nil ⟨rfl, S, R, x, true, true, th, m1, q2, q1, rfl, kn18.same (s19.trans s20), ht16.same (off_same (s1618.trans (s19.trans s20))), tb, me, dq2, dp_same (off_same s20) _ _ dq1, tlt, tnd, ne1, lt1, by omega, fun v2 H21 s21 fv2 => a_nil ⟨LT, [v1], v2, rfl, rfl, (s19.trans (s20.trans s21)) _ _ hLT18, Nat.lt_of_le_of_lt (show 1 ≤ 1000 by decide) (by decide), nx_of ?_⟩⟩))))))⟩)))
      have s1821 := s19.trans (s20.trans s21)
      have s1721 := s1718.trans s1821
      have s1722 : Same H17 (upd H21 LT (.lst ([v1] ++ [v2]))) := same_mut s1721 hLT
      have s1622 := s17.trans s1722
      have dv1 : Dp K (off S (upd H21 LT (.lst ([v1] ++ [v2])))) v1 (frD (fr R th m1)) := dp_same (off_same s1722) _ _ (fv1.dp kn16)
      have kn20 : Kn (plus S LT) H20 := (kn18.same (s19.trans s20)).plus (some_ne ((s19.trans s20) _ _ hLT18))
      have dv2 : Dp K (off S (upd H21 LT (.lst ([v1] ++ [v2])))) v2 (frD (fr R th m1)) := dp_same ((off_mut' (.inr rfl)).trans off_fin) _ _ (fv2.dp kn20)
      have dT : Dp K (off S (upd H21 LT (.lst ([v1] ++ [v2])))) (.ref LT) (.list [frD (fr R th m1), frD (fr R th m1)]) := dp_lst nSLT upd_same (.cons dv1 (.cons dv2 .nil))
      have hLT22 : (upd H21 LT (.lst ([v1] ++ [v2]))) LT = some (.lst [v1, v2]) := upd_same
      generalize upd H21 LT (.lst ([v1] ++ [v2])) = H22 at *
      clear dv1 dv2 kn20 s1721 s1821 s21 s20 s19 dq1 dq2 fv2 kn18 hLT18 s1718 s1618
      have kn22 := kn16.same s1622
      have dd22 := dp_same (off_same s1622) _ _ dd
      refine s_seq (s_if (b_or (b_test (t_op (t_var rfl (t_lst (a_cons (t_var rfl (a_cons (t_var rfl (a_nil ⟨le2, fun p9 h9 => ?_⟩)))))))))))
      have s23 := same_new (o := HO.lst [vd, vd]) h9
      refine ne_frs (dp_same (off_same s23) _ _ dT) (dp_newL (ds := [frD (fr R th m1), frD (fr R th m1)]) (ys := [vd, vd]) kn22 h9 (.cons dd22 (.cons dd22 .nil))) ⟨_, rfl, ifF rfl ?_⟩
      have s1623 := s1622.trans s23
      have s1723 := s1722.trans s23
      have hLT23 := s23 _ _ hLT22
      have kn23 := kn16.same s1623
      generalize upd H22 p9 (.lst [vd, vd]) = H23 at *
      refine b_test (t_op (t_call3 (t_var rfl (t_var rfl (t_var rfl ⟨S, R, x, false, false, th, m2, y, y2, rfl, kn23, ht16.same (off_same s1623), tb, me, dp_same (off_same s1623) _ _ dy16, dp_same (off_same s1623) _ _ dy2, tlt, tnd, ne2, lt2, by omega, fun v3 H24 s24 fv3 => ?_⟩)))))
      refine ev_call (K := K) (S := S) (enc := eLR) (f := fun x => frD (fr x.1 x.2.1 x.2.2)) (R, th, m2) (kn23.same s24) (ea_cons (ev_var rfl (dp_same (off_same (s1623.trans s24)) _ _ dR16)) (ea_cons (ev_var rfl (dp_same (off_same (s1623.trans s24)) _ _ dy16)) (ea_cons (ev_var rfl (dp_same (off_same (s1623.trans s24)) _ _ dy2)) ea_nil))) ⟨tb, tlt, tnd, ne2, lt2, by show m2.length ≤ 1000; omega⟩ H24 (Same.refl _) _ fun v4 H25 s25 d4 => ?_
      refine ne_frD (a := fr R th m2) (b := fr R th m2) (dp_same (off_same s25) _ _ (fv3.dp kn23)) d4 ⟨_, rfl, ifF (by simp) (s_next ?_)⟩
      have s2325 := s24.trans s25
      have s1625 := s1623.trans s2325
      have s1725 := s1723.trans s2325
      have hLT25 := s2325 _ _ hLT23
      clear s2325 s24 s25 d4 fv3 kn23 hLT23 s1723 s1623 s23 h9 hLT22 dT dd22 kn22 s1722 s1622
      refine s_mid (fun σ' H' => σ' = [some (.ref p), some vR, some (.ref x), some (.ref lV), some (.int (clh R : Nat)), some (.ref LA), x6, some y, some (.int (0 + j)), some y1, some y2, some vd, some (.ref LT)] ∧ Same H16 H') ?_ fun key => ?_
      rotate_left
      · refine s_if (b_test (t_op (t_op (t_var rfl (t_c (.inl ⟨LT, [v1, v2], ((0 : Nat) : Int), v1, rfl, rfl, sqL hLT25, atI_nat rfl, t_c ⟨rfl, _, rfl, ?_⟩⟩))))))
        rcases fv1 with ⟨_, rfl⟩ | ⟨l, el, _, nz⟩
        · exact ifF rfl (s_next (key _ _ ⟨rfl, s1625⟩))
        · obtain ⟨aL, xL, rfl, hLs, hL0, lL, _⟩ := new_list nz
          rw [List.length_map] at lL
          have := fr_len el
          have t7 : th.length ≤ 7 := Nat.le_trans (nodup_small tnd tlt) n7
          refine ifT (by rw [decide_eq_false (fun e => nomatch e)]; rfl) ?_
          have hL25 := s1725 _ _ hLs
          exact s_drop (t_bm (t_op (t_var rfl (t_c (.inl ⟨LT, [.ref aL, v2], ((0 : Nat) : Int), .ref aL, rfl, rfl, sqL hLT25, atI_nat rfl, .inl ⟨rfl, _, sqL hL25⟩, a_cons (t_c (a_nil ⟨aL, _, _, rfl, rfl, hL25, Nat.lt_of_le_of_lt (show xL.length ≤ 1000 by omega) (by decide), nx_of (key _ _ ⟨rfl, same_mut s1625 hL0⟩)⟩))⟩)))))
      rintro σ' H26 ⟨rfl, s1626⟩
      have kn26 := kn16.same s1626
      exact s_if (b_test (t_op (t_call3 (t_var rfl (t_var rfl (t_var rfl ⟨S, R, x, false, false, th, m1, y, y1, rfl, kn26, ht16.same (off_same s1626), tb, me, dp_same (off_same s1626) _ _ dy16, dp_same (off_same s1626) _ _ dy1, tlt, tnd, ne1, lt1, by omega, fun v5 H27 s27 fv5 => t_var rfl (ne_frD (a := fr R th m1) (b := fr R th m1) (fv5.dp kn26) (dp_same (off_same (s1626.trans s27)) _ _ dd) ⟨_, rfl, ifF (by simp) (s_next ⟨_, _, _, _, _, rfl, sb_trans sb1416 (sbut (s1626.trans s27)), pt16.same (s1626.trans s27)⟩)⟩)⟩))))))
    rintro σ' H28 ⟨x8', x9', x10', x11', x12', rfl, sb28, pt28⟩
    have sb428 := sb_trans sb414 sb28
    exact nx_of (s_if (b_not (b_val (t_call (a_cons (t_var rfl (a_cons (t_var rfl (a_cons (t_var rfl (a_cons (t_var rfl (a_cons (t_var rfl (a_nil ⟨S, p, R, x, vR, y, th, rfl, knA sb428 pt28, hS, pt28, htA sb428, tb, me, dRA sb428, dyA sb28, tlt, tnd, fun H29 sb29 pt29 => ⟨_, rfl, ifF rfl (s_next ⟨_, _, _, _, _, _, rfl, sb_trans sb28 sb29, pt29⟩)⟩⟩)))))))))))))))
  rintro σ' H30 ⟨x7, x8, x9, x10, x11, x12, rfl, sb30, pt30⟩
  have sb430 := sb_trans sb414 sb30
  have kn30 := knA sb430 pt30
  have ht30 := htA sb430
  have dR30 := dRA sb430
  refine nx_of (s_ret (t_op (t_var rfl (mk_table R tb kn30 (fun Q q => t_var rfl (q _ _ (Same.refl _) dR30)) fun y2 Hi si hi2 => ?_))))
  have hx := ht30.same (off_same si)
  have isi : ∀ {z : Addr}, TabAt K C (off S Hi) R z → isI Hi C (.ref z) := fun {z} h => by
    obtain ⟨dx, v, h0, _⟩ := h
    exact ⟨z, dx, _, rfl, off_sub _ _ h0⟩
  exact ⟨isi hx, .inl (isi hi2), S, R, x, y2, rfl, kn30.same si, hx, hi2, fun Hj sj => q Hj (sb_trans sb4 (sb_trans sb430 (sbut (si.trans sj))))⟩
end
end K31

set_option maxRecDepth 100000
set_option maxHeartbeats 4000000
namespace K31
open PySem PySem.Spec PyProof.Rows L2 Kh
theorem dp_script {K : PySem.W.Frag} {H : Hp} {p : Addr} {ns : List Int} (h : SqL K H p (ns.map V.int)) : Dp K H (.ref p) (.list (ns.map PyData.int)) := by
  refine .lst h ?_
  clear h
  induction ns with
  | nil => exact .nil
  | cons n ns ih => exact .cons (.int n) ih
theorem two_of (n : Nat) : ∃ m : Nat, 1 ≤ m ∧ m ≤ 2 ∧ (if (if (n : Int) < 2 then (n : Int) else 2) > 1 then (if (n : Int) < 2 then (n : Int) else 2) else 1) = (m : Int) := by
  by_cases h : (n : Int) < 2
  · rw [if_pos h]
    by_cases h2 : (n : Int) > 1
    · rw [if_pos h2]; exact ⟨n, by omega, by omega, rfl⟩
    · rw [if_neg h2]; exact ⟨1, by decide, by decide, rfl⟩
  · rw [if_neg h, if_pos (by decide)]; exact ⟨2, by decide, by decide, rfl⟩
section
variable {P : Program} {w : World} {K : PySem.W.Frag} {mg : Str → Option Value} {base : Heap} {a : Nat → Addr} {fd : Nat → FuncData} {C : Addr} {tk : Nat → Tok}
/-- the law of a script -/
def spLaw (K : PySem.W.Frag) : Sp := fun vs H Q _ => ∃ (p : Addr) (ns : List Int), vs = [.ref p] ∧ SqL K H p (ns.map V.int) ∧ ns.length ≤ 100000 ∧ ∀ H', Q (.bl true) H'
theorem ok_law (T : Txt K mg a fd C tk) (U : TxC K mg a C) (D : TxD K C) (kw_read_of : kwR3 K (fd 20) "table" "thresholds" "shower") (kw_are_firm : kwR K (fd 22) "table" "thresholds") (kw_unlike_showers : kwR K (fd 23) "table" "thresholds") (kw_are_unlike_showers : kwR3 K (fd 25) "table" "thresholds" "value") : FnG P w K mg base 14 (a 39) (fd 39) ["_law_script"] (spLaw K) := by
  have G__law_pot := ok__law_pot (P := P) (w := w) (base := base) T
  have G__law_right := ok__law_right (P := P) (w := w) (base := base) T U D kw_read_of kw_are_firm kw_unlike_showers kw_are_unlike_showers
  refine fun_okG T.F_law sc_law (fun vs H Q E h => by obtain ⟨_, _, rfl, _⟩ := h; rfl) (fun cdv A outer s H vs Q E hg hr h => ?_)
  obtain ⟨p, ns, rfl, hp, hl, q⟩ := h
  refine ⟨_, (pss_one (ps_ret (pe_callB (k_all (K := K) rfl) (by rfl) T.z_all (by decide +kernel) (pa_cons (pe_lc (own := [("_law_k", 1)]) (g := gName 1) (tt := tYes) rfl sc_law.nd (pi_range1 (by rfl) T.z_range (pa_cons (pe_callB (call_max2R rfl) (by rfl) T.z_max (by decide +kernel) (pa_cons pe_int (pa_cons (pe_callB (call_min2R rfl) (by rfl) T.z_min (by decide +kernel) (pa_cons pe_int (pa_cons (pe_callB (k_len (K := K)) (by rfl) T.z_len (by decide +kernel) (pa_cons (pv 0) pa_nil)) pa_nil))) pa_nil))) pa_nil)) (blkOk_by (own := [("_law_k", 1)]) (N := law_N) (sc := defScope law_s) (by decide +kernel)) (fun _ _ _ _ _ => (pg_name (i := 1) sc_law.nd rfl (Or.inl rfl))) (fun _ _ _ _ _ => pts_nil) (fun _ _ _ _ _ => (pe_call G__law_right (hr.mono (by omega)) (by rfl) T.m__law_right T.F__law_right.kp T.b__law_right .nil pass0 (pa_cons (pe_call G__law_pot (hr.mono (by omega)) (by rfl) T.m__law_pot T.F__law_pot.kp T.b__law_pot .nil pass0 (pa_cons (pv 0) (pa_cons (pv 1) pa_nil))) pa_nil)))) pa_nil)))), ?_⟩
  have hd := dp_script hp
  obtain ⟨m, m1, m2, em⟩ := two_of ns.length
  refine s_ret (t_cb1 (lc_rngB (K := K) (n := m) (fun _ => true) (kn_no (H := H)) (by omega) (fun q' h' => ?_) (fun _ => rfl) (fun j H1 S' hj s1 kn1 hS ho Q' q' => ?_) fun L H1 s1 dL => ?_))
  · refine a_cons (t_cb2 (t_c (t_cb2 (t_c (t_cb1 (t_var rfl (len_d (Same.refl H) hd rfl ⟨_, _, rfl, ⟨_, _, rfl, a_nil ?_⟩⟩)))))))
    rw [List.length_map, em]
    exact h' H (Same.refl _)
  · refine t_call1 (t_call2 (t_var rfl (t_var rfl ⟨.ref p, ns, j, rfl, dp_same s1 _ _ hd, by omega, fun po H2 s2 hn pt => ⟨po, rfl, pt, fun H3 sb => q' H3 fun b o h => sb b o (ne_of_none h hn) (s2 b o h)⟩⟩)))
  · exact all_d (bs := (List.range m).map fun _ => true) off_sub dL (by rw [all_map fun _ _ => rfl]; exact q H1)
end
end K31

set_option maxRecDepth 100000
set_option maxHeartbeats 4000000
namespace K31
open PySem PySem.Spec PyProof.Rows L2 Kh
theorem all_mk {P : Program} {w : World} {K : PySem.W.Frag} {h : Heap} {mg : Str → Option Value} {fa C f0 f1 f2 f3 f4 f5 f6 f7 f8 f9 f10 f11 f12 f13 f14 f15 f16 f17 f18 f19 f20 f21 f22 f23 f24 f25 f26 f27 f28 f29 f30 f31 f32 f33 f34 f35 f36 f37 f38 f39 : Addr} {tk0 : Tok} (X : K.In h) (G : h.Ns mainGlobals mg) (hfa : mg "law" = some (.ref fa))
    {od0 od1 od2 od3 od4 od5 od6 od7 od8 od9 od10 od11 od12 od13 od14 od15 od16 od17 od18 od19 od20 od21 od22 od23 od24 od25 od26 od27 od28 od29 od30 od31 od32 od33 od34 od35 od36 od37 od38 od39 an0 an1 an2 an3 an4 an5 an6 an7 an8 an9 an10 an11 an12 an13 an14 an15 an16 an17 an18 an19 an20 an21 an22 an23 an24 an25 an26 an27 an28 an29 an30 an31 an32 an33 an34 an35 an36 an37 an38 an39 : Option Addr} {sl0 sl1 sl2 sl3 sl4 sl5 sl6 sl7 sl8 sl9 sl10 sl11 sl12 sl13 sl14 sl15 sl16 sl17 sl18 sl19 sl20 sl21 sl22 sl23 sl24 sl25 sl26 sl27 sl28 sl29 sl30 sl31 sl32 sl33 sl34 sl35 sl36 sl37 sl38 sl39 : Array (Option Value)} {oc0 oc1 oc2 oc3 oc4 oc5 oc6 oc7 oc8 oc9 oc10 oc11 oc12 oc13 oc14 oc15 oc16 oc17 oc18 oc19 oc20 oc21 oc22 oc23 oc24 oc25 oc26 oc27 oc28 oc29 oc30 oc31 oc32 oc33 oc34 oc35 oc36 oc37 oc38 oc39 kV0 kV1 kV2 kV3 kV4 kV5 kV6 kV7 kV8 kV9 kV10 kV11 kV12 kV13 kV14 kV15 kV16 kV17 kV18 kV19 kV20 kV21 kV22 kV23 kV24 kV25 kV26 kV27 kV28 kV29 kV30 kV31 kV32 kV33 kV34 kV35 kV36 kV37 kV38 kV39 dc0 dc1 dc2 dc3 dc4 dc5 dc6 dc7 dc8 dc9 dc10 dc11 dc12 dc13 dc14 dc15 dc16 dc17 dc18 dc19 dc20 dc21 dc22 dc23 dc24 dc25 dc26 dc27 dc28 dc29 dc30 dc31 dc32 dc33 dc34 dc35 dc36 dc37 dc38 dc39 pm0 pm1 pm2 pm3 pm4 pm5 pm6 pm7 pm8 pm9 pm10 pm11 pm12 pm13 pm14 pm15 pm16 pm17 pm18 pm19 pm20 pm21 pm22 pm23 pm24 pm25 pm26 pm27 pm28 pm29 pm30 pm31 pm32 pm33 pm34 pm35 pm36 pm37 pm38 pm39 cd0 cd1 cd2 cd3 cd4 cd5 cd6 cd7 cd8 cd9 cd10 cd11 cd12 cd13 cd14 cd15 cd16 cd17 cd18 cd19 cd20 cd21 cd22 cd23 cd24 cd25 cd26 cd27 cd28 cd29 cd30 cd31 cd32 cd33 cd34 cd35 cd36 cd37 cd38 cd39 ct0 ct1 ct2 ct3 ct4 ct5 ct6 ct7 ct8 ct9 ct10 ct11 ct12 ct13 ct14 ct15 ct16 ct17 ct18 ct19 ct20 ct21 ct22 ct23 ct24 ct25 ct26 ct27 ct28 ct29 ct30 ct31 ct32 ct33 ct34 ct35 ct36 ct37 ct38 ct39 : Value}
    (a0 : PySem.W.nsIn K mainGlobals "is_integer" = some (some (.ref f0)))
    (l0 : K.lookup f0 = some ⟨oc0, od0, .func (PySem.W.fnOf "is_integer" "is_integer" (defArgs is_integer_s) (defBody is_integer_s) (defScope is_integer_s) .none kV0 dc0 pm0 an0 cd0 ct0), sl0⟩)
    (c0 : PySem.W.codeIn K cd0 "is_integer" = true)
    (k0 : PySem.W.keepIn K (.ref f0) = true)
    (a1 : PySem.W.nsIn K mainGlobals "is_count" = some (some (.ref f1)))
    (l1 : K.lookup f1 = some ⟨oc1, od1, .func (PySem.W.fnOf "is_count" "is_count" (defArgs is_count_s) (defBody is_count_s) (defScope is_count_s) .none kV1 dc1 pm1 an1 cd1 ct1), sl1⟩)
    (c1 : PySem.W.codeIn K cd1 "is_count" = true)
    (k1 : PySem.W.keepIn K (.ref f1) = true)
    (a2 : PySem.W.nsIn K mainGlobals "is_list" = some (some (.ref f2)))
    (l2 : K.lookup f2 = some ⟨oc2, od2, .func (PySem.W.fnOf "is_list" "is_list" (defArgs is_list_s) (defBody is_list_s) (defScope is_list_s) .none kV2 dc2 pm2 an2 cd2 ct2), sl2⟩)
    (c2 : PySem.W.codeIn K cd2 "is_list" = true)
    (k2 : PySem.W.keepIn K (.ref f2) = true)
    (a3 : PySem.W.nsIn K mainGlobals "is_number_below" = some (some (.ref f3)))
    (l3 : K.lookup f3 = some ⟨oc3, od3, .func (PySem.W.fnOf "is_number_below" "is_number_below" (defArgs is_number_below_s) (defBody is_number_below_s) (defScope is_number_below_s) .none kV3 dc3 pm3 an3 cd3 ct3), sl3⟩)
    (c3 : PySem.W.codeIn K cd3 "is_number_below" = true)
    (k3 : PySem.W.keepIn K (.ref f3) = true)
    (a4 : PySem.W.nsIn K mainGlobals "is_row" = some (some (.ref f4)))
    (l4 : K.lookup f4 = some ⟨oc4, od4, .func (PySem.W.fnOf "is_row" "is_row" (defArgs is_row_s) (defBody is_row_s) (defScope is_row_s) .none kV4 dc4 pm4 an4 cd4 ct4), sl4⟩)
    (c4 : PySem.W.codeIn K cd4 "is_row" = true)
    (k4 : PySem.W.keepIn K (.ref f4) = true)
    (a5 : PySem.W.findIn K (.ref C) "__init__" = some (some (.ref f5)))
    (i5 : PySem.W.isFn K (.ref f5) = true)
    (l5 : K.lookup f5 = some ⟨oc5, od5, .func (PySem.W.fnOf "__init__" "Table.__init__" (defArgs Table_init_s) (defBody Table_init_s) (defScope Table_init_s) .none kV5 dc5 pm5 an5 cd5 ct5), sl5⟩)
    (c5 : PySem.W.codeIn K cd5 "Table.__init__" = true)
    (k5 : PySem.W.keepIn K (.ref f5) = true)
    (a6 : PySem.W.findIn K (.ref C) "rows" = some (some (.ref f6)))
    (i6 : PySem.W.isFn K (.ref f6) = true)
    (l6 : K.lookup f6 = some ⟨oc6, od6, .func (PySem.W.fnOf "rows" "Table.rows" (defArgs Table_rows_s) (defBody Table_rows_s) (defScope Table_rows_s) .none kV6 dc6 pm6 an6 cd6 ct6), sl6⟩)
    (c6 : PySem.W.codeIn K cd6 "Table.rows" = true)
    (k6 : PySem.W.keepIn K (.ref f6) = true)
    (a7 : PySem.W.findIn K (.ref C) "at" = some (some (.ref f7)))
    (i7 : PySem.W.isFn K (.ref f7) = true)
    (l7 : K.lookup f7 = some ⟨oc7, od7, .func (PySem.W.fnOf "at" "Table.at" (defArgs Table_at_s) (defBody Table_at_s) (defScope Table_at_s) .none kV7 dc7 pm7 an7 cd7 ct7), sl7⟩)
    (c7 : PySem.W.codeIn K cd7 "Table.at" = true)
    (k7 : PySem.W.keepIn K (.ref f7) = true)
    (a8 : PySem.W.findIn K (.ref C) "__len__" = some (some (.ref f8)))
    (i8 : PySem.W.isFn K (.ref f8) = true)
    (l8 : K.lookup f8 = some ⟨oc8, od8, .func (PySem.W.fnOf "__len__" "Table.__len__" (defArgs Table_len_s) (defBody Table_len_s) (defScope Table_len_s) .none kV8 dc8 pm8 an8 cd8 ct8), sl8⟩)
    (c8 : PySem.W.codeIn K cd8 "Table.__len__" = true)
    (k8 : PySem.W.keepIn K (.ref f8) = true)
    (a9 : PySem.W.findIn K (.ref C) "__eq__" = some (some (.ref f9)))
    (i9 : PySem.W.isFn K (.ref f9) = true)
    (l9 : K.lookup f9 = some ⟨oc9, od9, .func (PySem.W.fnOf "__eq__" "Table.__eq__" (defArgs Table_eq_s) (defBody Table_eq_s) (defScope Table_eq_s) .none kV9 dc9 pm9 an9 cd9 ct9), sl9⟩)
    (c9 : PySem.W.codeIn K cd9 "Table.__eq__" = true)
    (k9 : PySem.W.keepIn K (.ref f9) = true)
    (a10 : PySem.W.nsIn K mainGlobals "check_value" = some (some (.ref f10)))
    (l10 : K.lookup f10 = some ⟨oc10, od10, .func (PySem.W.fnOf "check_value" "check_value" (defArgs check_value_s) (defBody check_value_s) (defScope check_value_s) .none kV10 dc10 pm10 an10 cd10 ct10), sl10⟩)
    (c10 : PySem.W.codeIn K cd10 "check_value" = true)
    (k10 : PySem.W.keepIn K (.ref f10) = true)
    (a11 : PySem.W.nsIn K mainGlobals "check_values" = some (some (.ref f11)))
    (l11 : K.lookup f11 = some ⟨oc11, od11, .func (PySem.W.fnOf "check_values" "check_values" (defArgs check_values_s) (defBody check_values_s) (defScope check_values_s) .none kV11 dc11 pm11 an11 cd11 ct11), sl11⟩)
    (c11 : PySem.W.codeIn K cd11 "check_values" = true)
    (k11 : PySem.W.keepIn K (.ref f11) = true)
    (a12 : PySem.W.nsIn K mainGlobals "parting" = some (some (.ref f12)))
    (l12 : K.lookup f12 = some ⟨oc12, od12, .func (PySem.W.fnOf "parting" "parting" (defArgs parting_s) (defBody parting_s) (defScope parting_s) .none kV12 dc12 pm12 an12 cd12 ct12), sl12⟩)
    (c12 : PySem.W.codeIn K cd12 "parting" = true)
    (k12 : PySem.W.keepIn K (.ref f12) = true)
    (a13 : PySem.W.nsIn K mainGlobals "melts" = some (some (.ref f13)))
    (l13 : K.lookup f13 = some ⟨oc13, od13, .func (PySem.W.fnOf "melts" "melts" (defArgs melts_s) (defBody melts_s) (defScope melts_s) .none kV13 dc13 pm13 an13 cd13 ct13), sl13⟩)
    (c13 : PySem.W.codeIn K cd13 "melts" = true)
    (k13 : PySem.W.keepIn K (.ref f13) = true)
    (a14 : PySem.W.nsIn K mainGlobals "check_melting" = some (some (.ref f14)))
    (l14 : K.lookup f14 = some ⟨oc14, od14, .func (PySem.W.fnOf "check_melting" "check_melting" (defArgs check_melting_s) (defBody check_melting_s) (defScope check_melting_s) .none kV14 dc14 pm14 an14 cd14 ct14), sl14⟩)
    (c14 : PySem.W.codeIn K cd14 "check_melting" = true)
    (k14 : PySem.W.keepIn K (.ref f14) = true)
    (a15 : PySem.W.nsIn K mainGlobals "joined" = some (some (.ref f15)))
    (l15 : K.lookup f15 = some ⟨oc15, od15, .func (PySem.W.fnOf "joined" "joined" (defArgs joined_s) (defBody joined_s) (defScope joined_s) .none kV15 dc15 pm15 an15 cd15 ct15), sl15⟩)
    (c15 : PySem.W.codeIn K cd15 "joined" = true)
    (k15 : PySem.W.keepIn K (.ref f15) = true)
    (a16 : PySem.W.nsIn K mainGlobals "is_within" = some (some (.ref f16)))
    (l16 : K.lookup f16 = some ⟨oc16, od16, .func (PySem.W.fnOf "is_within" "is_within" (defArgs is_within_s) (defBody is_within_s) (defScope is_within_s) .none kV16 dc16 pm16 an16 cd16 ct16), sl16⟩)
    (c16 : PySem.W.codeIn K cd16 "is_within" = true)
    (k16 : PySem.W.keepIn K (.ref f16) = true)
    (a17 : PySem.W.nsIn K mainGlobals "clash" = some (some (.ref f17)))
    (l17 : K.lookup f17 = some ⟨oc17, od17, .func (PySem.W.fnOf "clash" "clash" (defArgs clash_s) (defBody clash_s) (defScope clash_s) .none kV17 dc17 pm17 an17 cd17 ct17), sl17⟩)
    (c17 : PySem.W.codeIn K cd17 "clash" = true)
    (k17 : PySem.W.keepIn K (.ref f17) = true)
    (a18 : PySem.W.nsIn K mainGlobals "check_thresholds" = some (some (.ref f18)))
    (l18 : K.lookup f18 = some ⟨oc18, od18, .func (PySem.W.fnOf "check_thresholds" "check_thresholds" (defArgs check_thresholds_s) (defBody check_thresholds_s) (defScope check_thresholds_s) .none kV18 dc18 pm18 an18 cd18 ct18), sl18⟩)
    (c18 : PySem.W.codeIn K cd18 "check_thresholds" = true)
    (k18 : PySem.W.keepIn K (.ref f18) = true)
    (a19 : PySem.W.nsIn K mainGlobals "first_read" = some (some (.ref f19)))
    (l19 : K.lookup f19 = some ⟨oc19, od19, .func (PySem.W.fnOf "first_read" "first_read" (defArgs first_read_s) (defBody first_read_s) (defScope first_read_s) .none kV19 dc19 pm19 an19 cd19 ct19), sl19⟩)
    (c19 : PySem.W.codeIn K cd19 "first_read" = true)
    (k19 : PySem.W.keepIn K (.ref f19) = true)
    (a20 : PySem.W.nsIn K mainGlobals "read_of" = some (some (.ref f20)))
    (l20 : K.lookup f20 = some ⟨oc20, od20, .func (PySem.W.fnOf "read_of" "read_of" (defArgs read_of_s) (defBody read_of_s) (defScope read_of_s) .none kV20 dc20 pm20 an20 cd20 ct20), sl20⟩)
    (c20 : PySem.W.codeIn K cd20 "read_of" = true)
    (k20 : PySem.W.keepIn K (.ref f20) = true)
    (a21 : PySem.W.nsIn K mainGlobals "two_below" = some (some (.ref f21)))
    (l21 : K.lookup f21 = some ⟨oc21, od21, .func (PySem.W.fnOf "two_below" "two_below" (defArgs two_below_s) (defBody two_below_s) (defScope two_below_s) .none kV21 dc21 pm21 an21 cd21 ct21), sl21⟩)
    (c21 : PySem.W.codeIn K cd21 "two_below" = true)
    (k21 : PySem.W.keepIn K (.ref f21) = true)
    (a22 : PySem.W.nsIn K mainGlobals "are_firm" = some (some (.ref f22)))
    (l22 : K.lookup f22 = some ⟨oc22, od22, .func (PySem.W.fnOf "are_firm" "are_firm" (defArgs are_firm_s) (defBody are_firm_s) (defScope are_firm_s) .none kV22 dc22 pm22 an22 cd22 ct22), sl22⟩)
    (c22 : PySem.W.codeIn K cd22 "are_firm" = true)
    (k22 : PySem.W.keepIn K (.ref f22) = true)
    (a23 : PySem.W.nsIn K mainGlobals "unlike_showers" = some (some (.ref f23)))
    (l23 : K.lookup f23 = some ⟨oc23, od23, .func (PySem.W.fnOf "unlike_showers" "unlike_showers" (defArgs unlike_showers_s) (defBody unlike_showers_s) (defScope unlike_showers_s) .none kV23 dc23 pm23 an23 cd23 ct23), sl23⟩)
    (c23 : PySem.W.codeIn K cd23 "unlike_showers" = true)
    (k23 : PySem.W.keepIn K (.ref f23) = true)
    (a24 : PySem.W.nsIn K mainGlobals "is_shower" = some (some (.ref f24)))
    (l24 : K.lookup f24 = some ⟨oc24, od24, .func (PySem.W.fnOf "is_shower" "is_shower" (defArgs is_shower_s) (defBody is_shower_s) (defScope is_shower_s) .none kV24 dc24 pm24 an24 cd24 ct24), sl24⟩)
    (c24 : PySem.W.codeIn K cd24 "is_shower" = true)
    (k24 : PySem.W.keepIn K (.ref f24) = true)
    (a25 : PySem.W.nsIn K mainGlobals "are_unlike_showers" = some (some (.ref f25)))
    (l25 : K.lookup f25 = some ⟨oc25, od25, .func (PySem.W.fnOf "are_unlike_showers" "are_unlike_showers" (defArgs are_unlike_showers_s) (defBody are_unlike_showers_s) (defScope are_unlike_showers_s) .none kV25 dc25 pm25 an25 cd25 ct25), sl25⟩)
    (c25 : PySem.W.codeIn K cd25 "are_unlike_showers" = true)
    (k25 : PySem.W.keepIn K (.ref f25) = true)
    (a26 : PySem.W.nsIn K mainGlobals "_law_pot" = some (some (.ref f26)))
    (l26 : K.lookup f26 = some ⟨oc26, od26, .func (PySem.W.fnOf "_law_pot" "_law_pot" (defArgs _law_pot_s) (defBody _law_pot_s) (defScope _law_pot_s) .none kV26 dc26 pm26 an26 cd26 ct26), sl26⟩)
    (c26 : PySem.W.codeIn K cd26 "_law_pot" = true)
    (k26 : PySem.W.keepIn K (.ref f26) = true)
    (a27 : PySem.W.nsIn K mainGlobals "_law_draw" = some (some (.ref f27)))
    (l27 : K.lookup f27 = some ⟨oc27, od27, .func (PySem.W.fnOf "_law_draw" "_law_draw" (defArgs _law_draw_s) (defBody _law_draw_s) (defScope _law_draw_s) .none kV27 dc27 pm27 an27 cd27 ct27), sl27⟩)
    (c27 : PySem.W.codeIn K cd27 "_law_draw" = true)
    (k27 : PySem.W.keepIn K (.ref f27) = true)
    (a28 : PySem.W.nsIn K mainGlobals "_law_pick" = some (some (.ref f28)))
    (l28 : K.lookup f28 = some ⟨oc28, od28, .func (PySem.W.fnOf "_law_pick" "_law_pick" (defArgs _law_pick_s) (defBody _law_pick_s) (defScope _law_pick_s) .none kV28 dc28 pm28 an28 cd28 ct28), sl28⟩)
    (c28 : PySem.W.codeIn K cd28 "_law_pick" = true)
    (k28 : PySem.W.keepIn K (.ref f28) = true)
    (a29 : PySem.W.nsIn K mainGlobals "_law_mixed" = some (some (.ref f29)))
    (l29 : K.lookup f29 = some ⟨oc29, od29, .func (PySem.W.fnOf "_law_mixed" "_law_mixed" (defArgs _law_mixed_s) (defBody _law_mixed_s) (defScope _law_mixed_s) .none kV29 dc29 pm29 an29 cd29 ct29), sl29⟩)
    (c29 : PySem.W.codeIn K cd29 "_law_mixed" = true)
    (k29 : PySem.W.keepIn K (.ref f29) = true)
    (a30 : PySem.W.nsIn K mainGlobals "_law_lots" = some (some (.ref f30)))
    (l30 : K.lookup f30 = some ⟨oc30, od30, .func (PySem.W.fnOf "_law_lots" "_law_lots" (defArgs _law_lots_s) (defBody _law_lots_s) (defScope _law_lots_s) .none kV30 dc30 pm30 an30 cd30 ct30), sl30⟩)
    (c30 : PySem.W.codeIn K cd30 "_law_lots" = true)
    (k30 : PySem.W.keepIn K (.ref f30) = true)
    (a31 : PySem.W.nsIn K mainGlobals "_law_melting" = some (some (.ref f31)))
    (l31 : K.lookup f31 = some ⟨oc31, od31, .func (PySem.W.fnOf "_law_melting" "_law_melting" (defArgs _law_melting_s) (defBody _law_melting_s) (defScope _law_melting_s) .none kV31 dc31 pm31 an31 cd31 ct31), sl31⟩)
    (c31 : PySem.W.codeIn K cd31 "_law_melting" = true)
    (k31 : PySem.W.keepIn K (.ref f31) = true)
    (a32 : PySem.W.nsIn K mainGlobals "_law_join" = some (some (.ref f32)))
    (l32 : K.lookup f32 = some ⟨oc32, od32, .func (PySem.W.fnOf "_law_join" "_law_join" (defArgs _law_join_s) (defBody _law_join_s) (defScope _law_join_s) .none kV32 dc32 pm32 an32 cd32 ct32), sl32⟩)
    (c32 : PySem.W.codeIn K cd32 "_law_join" = true)
    (k32 : PySem.W.keepIn K (.ref f32) = true)
    (a33 : PySem.W.nsIn K mainGlobals "_law_read" = some (some (.ref f33)))
    (l33 : K.lookup f33 = some ⟨oc33, od33, .func (PySem.W.fnOf "_law_read" "_law_read" (defArgs _law_read_s) (defBody _law_read_s) (defScope _law_read_s) .none kV33 dc33 pm33 an33 cd33 ct33), sl33⟩)
    (c33 : PySem.W.codeIn K cd33 "_law_read" = true)
    (k33 : PySem.W.keepIn K (.ref f33) = true)
    (a34 : PySem.W.nsIn K mainGlobals "_law_is_shower" = some (some (.ref f34)))
    (l34 : K.lookup f34 = some ⟨oc34, od34, .func (PySem.W.fnOf "_law_is_shower" "_law_is_shower" (defArgs _law_is_shower_s) (defBody _law_is_shower_s) (defScope _law_is_shower_s) .none kV34 dc34 pm34 an34 cd34 ct34), sl34⟩)
    (c34 : PySem.W.codeIn K cd34 "_law_is_shower" = true)
    (k34 : PySem.W.keepIn K (.ref f34) = true)
    (a35 : PySem.W.nsIn K mainGlobals "_law_are_unlike" = some (some (.ref f35)))
    (l35 : K.lookup f35 = some ⟨oc35, od35, .func (PySem.W.fnOf "_law_are_unlike" "_law_are_unlike" (defArgs _law_are_unlike_s) (defBody _law_are_unlike_s) (defScope _law_are_unlike_s) .none kV35 dc35 pm35 an35 cd35 ct35), sl35⟩)
    (c35 : PySem.W.codeIn K cd35 "_law_are_unlike" = true)
    (k35 : PySem.W.keepIn K (.ref f35) = true)
    (a36 : PySem.W.nsIn K mainGlobals "_law_two" = some (some (.ref f36)))
    (l36 : K.lookup f36 = some ⟨oc36, od36, .func (PySem.W.fnOf "_law_two" "_law_two" (defArgs _law_two_s) (defBody _law_two_s) (defScope _law_two_s) .none kV36 dc36 pm36 an36 cd36 ct36), sl36⟩)
    (c36 : PySem.W.codeIn K cd36 "_law_two" = true)
    (k36 : PySem.W.keepIn K (.ref f36) = true)
    (a37 : PySem.W.nsIn K mainGlobals "_law_firm_right" = some (some (.ref f37)))
    (l37 : K.lookup f37 = some ⟨oc37, od37, .func (PySem.W.fnOf "_law_firm_right" "_law_firm_right" (defArgs _law_firm_right_s) (defBody _law_firm_right_s) (defScope _law_firm_right_s) .none kV37 dc37 pm37 an37 cd37 ct37), sl37⟩)
    (c37 : PySem.W.codeIn K cd37 "_law_firm_right" = true)
    (k37 : PySem.W.keepIn K (.ref f37) = true)
    (a38 : PySem.W.nsIn K mainGlobals "_law_right" = some (some (.ref f38)))
    (l38 : K.lookup f38 = some ⟨oc38, od38, .func (PySem.W.fnOf "_law_right" "_law_right" (defArgs _law_right_s) (defBody _law_right_s) (defScope _law_right_s) .none kV38 dc38 pm38 an38 cd38 ct38), sl38⟩)
    (c38 : PySem.W.codeIn K cd38 "_law_right" = true)
    (k38 : PySem.W.keepIn K (.ref f38) = true)
    (a39 : PySem.W.nsIn K mainGlobals "law" = some (some (.ref f39)))
    (l39 : K.lookup f39 = some ⟨oc39, od39, .func (PySem.W.fnOf "law" "law" (defArgs law_s) (defBody law_s) (defScope law_s) .none kV39 dc39 pm39 an39 cd39 ct39), sl39⟩)
    (c39 : PySem.W.codeIn K cd39 "law" = true)
    (k39 : PySem.W.keepIn K (.ref f39) = true)
    (aC : PySem.W.nsIn K mainGlobals "Table" = some (some (.ref C)))
    (pg : PySem.W.plainGet K C Str.empty = true)
    (hd : PySem.W.hasDictIn K C = true)
    (po : PySem.W.plainOver K C = true)
    (sa : PySem.W.findIn K (.ref C) "__setattr__" = some (some (.builtin "object.__setattr__")))
    (mk : PySem.W.makesIn K C = true)
    (kc : PySem.W.keepIn K (.ref C) = true)
    (n1 : PySem.W.findIn K (.ref C) "_rows" = some none)
    (dha : PySem.W.findIn K (.ref C) "__class__" = some (some (.builtin "object.__class__")))
    (dhn : PySem.W.specialIn K (.builtin "object.__class__") "__get__" = some (some (.builtin "getset_descriptor.__get__")))
    (dht : PySem.W.takesIn K (.builtin "object.__class__") = some true)
    (dhm : PySem.W.mroIn K C (.type "object") = some true)
    (dow : PySem.W.kitOne K (.ref C) (.ref C) = some true)
    (vMOST_VALUES : PySem.W.nsIn K mainGlobals "MOST_VALUES" = some (some (.int 7 tk0)))
    (zisinstance : PySem.W.nsIn K mainGlobals "isinstance" = some none)
    (zint : PySem.W.nsIn K mainGlobals "int" = some none)
    (zbool : PySem.W.nsIn K mainGlobals "bool" = some none)
    (zlist : PySem.W.nsIn K mainGlobals "list" = some none)
    (ztuple : PySem.W.nsIn K mainGlobals "tuple" = some none)
    (zall : PySem.W.nsIn K mainGlobals "all" = some none)
    (zlen : PySem.W.nsIn K mainGlobals "len" = some none)
    (zenumerate : PySem.W.nsIn K mainGlobals "enumerate" = some none)
    (zrange : PySem.W.nsIn K mainGlobals "range" = some none)
    (zsorted : PySem.W.nsIn K mainGlobals "sorted" = some none)
    (zset : PySem.W.nsIn K mainGlobals "set" = some none)
    (zabs : PySem.W.nsIn K mainGlobals "abs" = some none)
    (zmax : PySem.W.nsIn K mainGlobals "max" = some none)
    (zdivmod : PySem.W.nsIn K mainGlobals "divmod" = some none)
    (zmin : PySem.W.nsIn K mainGlobals "min" = some none)
    : ∃ fd : FuncData, (∀ (s : Shared) (u : Value), BindsTo s fd ⟨[u], []⟩ [("_law_script", u)]) ∧ ∀ base : Heap, K.In base → base.Ns mainGlobals mg → FnG P w K mg base 14 fa fd ["_law_script"] (spLaw K) := by
  have e : fa = f39 := by
    have q := hfa.symm.trans (PySem.W.mg_of X G a39)
    injection q with q
    injection q
  rw [e]
  have F0 := fun_mk (x := "is_integer") (qual := "is_integer") (st := is_integer_s) l0 c0 k0
  have F1 := fun_mk (x := "is_count") (qual := "is_count") (st := is_count_s) l1 c1 k1
  have F2 := fun_mk (x := "is_list") (qual := "is_list") (st := is_list_s) l2 c2 k2
  have F3 := fun_mk (x := "is_number_below") (qual := "is_number_below") (st := is_number_below_s) l3 c3 k3
  have F4 := fun_mk (x := "is_row") (qual := "is_row") (st := is_row_s) l4 c4 k4
  have F5 := fun_mk (x := "__init__") (qual := "Table.__init__") (st := Table_init_s) l5 c5 k5
  have F6 := fun_mk (x := "rows") (qual := "Table.rows") (st := Table_rows_s) l6 c6 k6
  have F7 := fun_mk (x := "at") (qual := "Table.at") (st := Table_at_s) l7 c7 k7
  have F8 := fun_mk (x := "__len__") (qual := "Table.__len__") (st := Table_len_s) l8 c8 k8
  have F9 := fun_mk (x := "__eq__") (qual := "Table.__eq__") (st := Table_eq_s) l9 c9 k9
  have F10 := fun_mk (x := "check_value") (qual := "check_value") (st := check_value_s) l10 c10 k10
  have F11 := fun_mk (x := "check_values") (qual := "check_values") (st := check_values_s) l11 c11 k11
  have F12 := fun_mk (x := "parting") (qual := "parting") (st := parting_s) l12 c12 k12
  have F13 := fun_mk (x := "melts") (qual := "melts") (st := melts_s) l13 c13 k13
  have F14 := fun_mk (x := "check_melting") (qual := "check_melting") (st := check_melting_s) l14 c14 k14
  have F15 := fun_mk (x := "joined") (qual := "joined") (st := joined_s) l15 c15 k15
  have F16 := fun_mk (x := "is_within") (qual := "is_within") (st := is_within_s) l16 c16 k16
  have F17 := fun_mk (x := "clash") (qual := "clash") (st := clash_s) l17 c17 k17
  have F18 := fun_mk (x := "check_thresholds") (qual := "check_thresholds") (st := check_thresholds_s) l18 c18 k18
  have F19 := fun_mk (x := "first_read") (qual := "first_read") (st := first_read_s) l19 c19 k19
  have F20 := fun_mk (x := "read_of") (qual := "read_of") (st := read_of_s) l20 c20 k20
  have F21 := fun_mk (x := "two_below") (qual := "two_below") (st := two_below_s) l21 c21 k21
  have F22 := fun_mk (x := "are_firm") (qual := "are_firm") (st := are_firm_s) l22 c22 k22
  have F23 := fun_mk (x := "unlike_showers") (qual := "unlike_showers") (st := unlike_showers_s) l23 c23 k23
  have F24 := fun_mk (x := "is_shower") (qual := "is_shower") (st := is_shower_s) l24 c24 k24
  have F25 := fun_mk (x := "are_unlike_showers") (qual := "are_unlike_showers") (st := are_unlike_showers_s) l25 c25 k25
  have F26 := fun_mk (x := "_law_pot") (qual := "_law_pot") (st := _law_pot_s) l26 c26 k26
  have F27 := fun_mk (x := "_law_draw") (qual := "_law_draw") (st := _law_draw_s) l27 c27 k27
  have F28 := fun_mk (x := "_law_pick") (qual := "_law_pick") (st := _law_pick_s) l28 c28 k28
  have F29 := fun_mk (x := "_law_mixed") (qual := "_law_mixed") (st := _law_mixed_s) l29 c29 k29
  have F30 := fun_mk (x := "_law_lots") (qual := "_law_lots") (st := _law_lots_s) l30 c30 k30
  have F31 := fun_mk (x := "_law_melting") (qual := "_law_melting") (st := _law_melting_s) l31 c31 k31
  have F32 := fun_mk (x := "_law_join") (qual := "_law_join") (st := _law_join_s) l32 c32 k32
  have F33 := fun_mk (x := "_law_read") (qual := "_law_read") (st := _law_read_s) l33 c33 k33
  have F34 := fun_mk (x := "_law_is_shower") (qual := "_law_is_shower") (st := _law_is_shower_s) l34 c34 k34
  have F35 := fun_mk (x := "_law_are_unlike") (qual := "_law_are_unlike") (st := _law_are_unlike_s) l35 c35 k35
  have F36 := fun_mk (x := "_law_two") (qual := "_law_two") (st := _law_two_s) l36 c36 k36
  have F37 := fun_mk (x := "_law_firm_right") (qual := "_law_firm_right") (st := _law_firm_right_s) l37 c37 k37
  have F38 := fun_mk (x := "_law_right") (qual := "_law_right") (st := _law_right_s) l38 c38 k38
  have F39 := fun_mk (x := "law") (qual := "law") (st := law_s) l39 c39 k39
  have b0 := F0.binds (ps := ["value"]) fun _ _ _ _ _ _ us hl => match us, hl with | [_], _ => rfl
  have b1 := F1.binds (ps := ["value"]) fun _ _ _ _ _ _ us hl => match us, hl with | [_], _ => rfl
  have b2 := F2.binds (ps := ["value"]) fun _ _ _ _ _ _ us hl => match us, hl with | [_], _ => rfl
  have b3 := F3.binds (ps := ["value", "many"]) fun _ _ _ _ _ _ us hl => match us, hl with | [_, _], _ => rfl
  have b4 := F4.binds (ps := ["value", "size"]) fun _ _ _ _ _ _ us hl => match us, hl with | [_, _], _ => rfl
  have b5 := F5.binds (ps := ["self", "rows"]) fun _ _ _ _ _ _ us hl => match us, hl with | [_, _], _ => rfl
  have b6 := F6.binds (ps := ["self"]) fun _ _ _ _ _ _ us hl => match us, hl with | [_], _ => rfl
  have b7 := F7.binds (ps := ["self", "x", "y"]) fun _ _ _ _ _ _ us hl => match us, hl with | [_, _, _], _ => rfl
  have b8 := F8.binds (ps := ["self"]) fun _ _ _ _ _ _ us hl => match us, hl with | [_], _ => rfl
  have b9 := F9.binds (ps := ["self", "other"]) fun _ _ _ _ _ _ us hl => match us, hl with | [_, _], _ => rfl
  have b10 := F10.binds (ps := ["table", "value"]) fun _ _ _ _ _ _ us hl => match us, hl with | [_, _], _ => rfl
  have b11 := F11.binds (ps := ["table", "values", "fewest"]) fun _ _ _ _ _ _ us hl => match us, hl with | [_, _, _], _ => rfl
  have b12 := F12.binds (ps := ["table"]) fun _ _ _ _ _ _ us hl => match us, hl with | [_], _ => rfl
  have b13 := F13.binds (ps := ["table"]) fun _ _ _ _ _ _ us hl => match us, hl with | [_], _ => rfl
  have b14 := F14.binds (ps := ["table"]) fun _ _ _ _ _ _ us hl => match us, hl with | [_], _ => rfl
  have b15 := F15.binds (ps := ["table", "values"]) fun _ _ _ _ _ _ us hl => match us, hl with | [_, _], _ => rfl
  have b16 := F16.binds (ps := ["table", "one", "other"]) fun _ _ _ _ _ _ us hl => match us, hl with | [_, _, _], _ => rfl
  have b17 := F17.binds (ps := ["table"]) fun _ _ _ _ _ _ us hl => match us, hl with | [_], _ => rfl
  have b18 := F18.binds (ps := ["table", "thresholds"]) fun _ _ _ _ _ _ us hl => match us, hl with | [_, _], _ => rfl
  have b19 := F19.binds (ps := ["table", "thresholds", "shower"]) fun _ _ _ _ _ _ us hl => match us, hl with | [_, _, _], _ => rfl
  have b20 := F20.binds (ps := ["table", "thresholds", "shower"]) fun _ _ _ _ _ _ us hl => match us, hl with | [_, _, _], _ => rfl
  have b21 := F21.binds (ps := ["table", "thresholds"]) fun _ _ _ _ _ _ us hl => match us, hl with | [_, _], _ => rfl
  have b22 := F22.binds (ps := ["table", "thresholds"]) fun _ _ _ _ _ _ us hl => match us, hl with | [_, _], _ => rfl
  have b23 := F23.binds (ps := ["table", "thresholds"]) fun _ _ _ _ _ _ us hl => match us, hl with | [_, _], _ => rfl
  have b24 := F24.binds (ps := ["table", "value"]) fun _ _ _ _ _ _ us hl => match us, hl with | [_, _], _ => rfl
  have b25 := F25.binds (ps := ["table", "thresholds", "value"]) fun _ _ _ _ _ _ us hl => match us, hl with | [_, _, _], _ => rfl
  have b26 := F26.binds (ps := ["_law_script", "_law_k"]) fun _ _ _ _ _ _ us hl => match us, hl with | [_, _], _ => rfl
  have b27 := F27.binds (ps := ["_law_pot_here", "_law_many"]) fun _ _ _ _ _ _ us hl => match us, hl with | [_, _], _ => rfl
  have b28 := F28.binds (ps := ["_law_pot_here", "_law_some"]) fun _ _ _ _ _ _ us hl => match us, hl with | [_, _], _ => rfl
  have b29 := F29.binds (ps := ["_law_pot_here", "_law_some"]) fun _ _ _ _ _ _ us hl => match us, hl with | [_, _], _ => rfl
  have b30 := F30.binds (ps := ["_law_pot_here"]) fun _ _ _ _ _ _ us hl => match us, hl with | [_], _ => rfl
  have b31 := F31.binds (ps := ["_law_pot_here"]) fun _ _ _ _ _ _ us hl => match us, hl with | [_], _ => rfl
  have b32 := F32.binds (ps := ["_law_rows", "_law_values"]) fun _ _ _ _ _ _ us hl => match us, hl with | [_, _], _ => rfl
  have b33 := F33.binds (ps := ["_law_rows", "_law_thresholds", "_law_shower"]) fun _ _ _ _ _ _ us hl => match us, hl with | [_, _, _], _ => rfl
  have b34 := F34.binds (ps := ["_law_rows", "_law_thing"]) fun _ _ _ _ _ _ us hl => match us, hl with | [_, _], _ => rfl
  have b35 := F35.binds (ps := ["_law_rows", "_law_clash", "_law_thresholds", "_law_thing"]) fun _ _ _ _ _ _ us hl => match us, hl with | [_, _, _, _], _ => rfl
  have b36 := F36.binds (ps := ["_law_pot_here", "_law_rows"]) fun _ _ _ _ _ _ us hl => match us, hl with | [_, _], _ => rfl
  have b37 := F37.binds (ps := ["_law_pot_here", "_law_table_here", "_law_rows", "_law_clash", "_law_thresholds"]) fun _ _ _ _ _ _ us hl => match us, hl with | [_, _, _, _, _], _ => rfl
  have b38 := F38.binds (ps := ["_law_pot_here"]) fun _ _ _ _ _ _ us hl => match us, hl with | [_], _ => rfl
  have b39 := F39.binds (ps := ["_law_script"]) fun _ _ _ _ _ _ us hl => match us, hl with | [_], _ => rfl
  let fa_ : Nat → Addr := fun i => [f0, f1, f2, f3, f4, f5, f6, f7, f8, f9, f10, f11, f12, f13, f14, f15, f16, f17, f18, f19, f20, f21, f22, f23, f24, f25, f26, f27, f28, f29, f30, f31, f32, f33, f34, f35, f36, f37, f38, f39].getD i 0
  let fd_ : Nat → FuncData := fun i => [(PySem.W.fnOf "is_integer" "is_integer" (defArgs is_integer_s) (defBody is_integer_s) (defScope is_integer_s) .none kV0 dc0 pm0 an0 cd0 ct0),
    (PySem.W.fnOf "is_count" "is_count" (defArgs is_count_s) (defBody is_count_s) (defScope is_count_s) .none kV1 dc1 pm1 an1 cd1 ct1),
    (PySem.W.fnOf "is_list" "is_list" (defArgs is_list_s) (defBody is_list_s) (defScope is_list_s) .none kV2 dc2 pm2 an2 cd2 ct2),
    (PySem.W.fnOf "is_number_below" "is_number_below" (defArgs is_number_below_s) (defBody is_number_below_s) (defScope is_number_below_s) .none kV3 dc3 pm3 an3 cd3 ct3),
    (PySem.W.fnOf "is_row" "is_row" (defArgs is_row_s) (defBody is_row_s) (defScope is_row_s) .none kV4 dc4 pm4 an4 cd4 ct4),
    (PySem.W.fnOf "__init__" "Table.__init__" (defArgs Table_init_s) (defBody Table_init_s) (defScope Table_init_s) .none kV5 dc5 pm5 an5 cd5 ct5),
    (PySem.W.fnOf "rows" "Table.rows" (defArgs Table_rows_s) (defBody Table_rows_s) (defScope Table_rows_s) .none kV6 dc6 pm6 an6 cd6 ct6),
    (PySem.W.fnOf "at" "Table.at" (defArgs Table_at_s) (defBody Table_at_s) (defScope Table_at_s) .none kV7 dc7 pm7 an7 cd7 ct7),
    (PySem.W.fnOf "__len__" "Table.__len__" (defArgs Table_len_s) (defBody Table_len_s) (defScope Table_len_s) .none kV8 dc8 pm8 an8 cd8 ct8),
    (PySem.W.fnOf "__eq__" "Table.__eq__" (defArgs Table_eq_s) (defBody Table_eq_s) (defScope Table_eq_s) .none kV9 dc9 pm9 an9 cd9 ct9),
    (PySem.W.fnOf "check_value" "check_value" (defArgs check_value_s) (defBody check_value_s) (defScope check_value_s) .none kV10 dc10 pm10 an10 cd10 ct10),
    (PySem.W.fnOf "check_values" "check_values" (defArgs check_values_s) (defBody check_values_s) (defScope check_values_s) .none kV11 dc11 pm11 an11 cd11 ct11),
    (PySem.W.fnOf "parting" "parting" (defArgs parting_s) (defBody parting_s) (defScope parting_s) .none kV12 dc12 pm12 an12 cd12 ct12),
    (PySem.W.fnOf "melts" "melts" (defArgs melts_s) (defBody melts_s) (defScope melts_s) .none kV13 dc13 pm13 an13 cd13 ct13),
    (PySem.W.fnOf "check_melting" "check_melting" (defArgs check_melting_s) (defBody check_melting_s) (defScope check_melting_s) .none kV14 dc14 pm14 an14 cd14 ct14),
    (PySem.W.fnOf "joined" "joined" (defArgs joined_s) (defBody joined_s) (defScope joined_s) .none kV15 dc15 pm15 an15 cd15 ct15),
    (PySem.W.fnOf "is_within" "is_within" (defArgs is_within_s) (defBody is_within_s) (defScope is_within_s) .none kV16 dc16 pm16 an16 cd16 ct16),
    (PySem.W.fnOf "clash" "clash" (defArgs clash_s) (defBody clash_s) (defScope clash_s) .none kV17 dc17 pm17 an17 cd17 ct17),
    (PySem.W.fnOf "check_thresholds" "check_thresholds" (defArgs check_thresholds_s) (defBody check_thresholds_s) (defScope check_thresholds_s) .none kV18 dc18 pm18 an18 cd18 ct18),
    (PySem.W.fnOf "first_read" "first_read" (defArgs first_read_s) (defBody first_read_s) (defScope first_read_s) .none kV19 dc19 pm19 an19 cd19 ct19),
    (PySem.W.fnOf "read_of" "read_of" (defArgs read_of_s) (defBody read_of_s) (defScope read_of_s) .none kV20 dc20 pm20 an20 cd20 ct20),
    (PySem.W.fnOf "two_below" "two_below" (defArgs two_below_s) (defBody two_below_s) (defScope two_below_s) .none kV21 dc21 pm21 an21 cd21 ct21),
    (PySem.W.fnOf "are_firm" "are_firm" (defArgs are_firm_s) (defBody are_firm_s) (defScope are_firm_s) .none kV22 dc22 pm22 an22 cd22 ct22),
    (PySem.W.fnOf "unlike_showers" "unlike_showers" (defArgs unlike_showers_s) (defBody unlike_showers_s) (defScope unlike_showers_s) .none kV23 dc23 pm23 an23 cd23 ct23),
    (PySem.W.fnOf "is_shower" "is_shower" (defArgs is_shower_s) (defBody is_shower_s) (defScope is_shower_s) .none kV24 dc24 pm24 an24 cd24 ct24),
    (PySem.W.fnOf "are_unlike_showers" "are_unlike_showers" (defArgs are_unlike_showers_s) (defBody are_unlike_showers_s) (defScope are_unlike_showers_s) .none kV25 dc25 pm25 an25 cd25 ct25),
    (PySem.W.fnOf "_law_pot" "_law_pot" (defArgs _law_pot_s) (defBody _law_pot_s) (defScope _law_pot_s) .none kV26 dc26 pm26 an26 cd26 ct26),
    (PySem.W.fnOf "_law_draw" "_law_draw" (defArgs _law_draw_s) (defBody _law_draw_s) (defScope _law_draw_s) .none kV27 dc27 pm27 an27 cd27 ct27),
    (PySem.W.fnOf "_law_pick" "_law_pick" (defArgs _law_pick_s) (defBody _law_pick_s) (defScope _law_pick_s) .none kV28 dc28 pm28 an28 cd28 ct28),
    (PySem.W.fnOf "_law_mixed" "_law_mixed" (defArgs _law_mixed_s) (defBody _law_mixed_s) (defScope _law_mixed_s) .none kV29 dc29 pm29 an29 cd29 ct29),
    (PySem.W.fnOf "_law_lots" "_law_lots" (defArgs _law_lots_s) (defBody _law_lots_s) (defScope _law_lots_s) .none kV30 dc30 pm30 an30 cd30 ct30),
    (PySem.W.fnOf "_law_melting" "_law_melting" (defArgs _law_melting_s) (defBody _law_melting_s) (defScope _law_melting_s) .none kV31 dc31 pm31 an31 cd31 ct31),
    (PySem.W.fnOf "_law_join" "_law_join" (defArgs _law_join_s) (defBody _law_join_s) (defScope _law_join_s) .none kV32 dc32 pm32 an32 cd32 ct32),
    (PySem.W.fnOf "_law_read" "_law_read" (defArgs _law_read_s) (defBody _law_read_s) (defScope _law_read_s) .none kV33 dc33 pm33 an33 cd33 ct33),
    (PySem.W.fnOf "_law_is_shower" "_law_is_shower" (defArgs _law_is_shower_s) (defBody _law_is_shower_s) (defScope _law_is_shower_s) .none kV34 dc34 pm34 an34 cd34 ct34),
    (PySem.W.fnOf "_law_are_unlike" "_law_are_unlike" (defArgs _law_are_unlike_s) (defBody _law_are_unlike_s) (defScope _law_are_unlike_s) .none kV35 dc35 pm35 an35 cd35 ct35),
    (PySem.W.fnOf "_law_two" "_law_two" (defArgs _law_two_s) (defBody _law_two_s) (defScope _law_two_s) .none kV36 dc36 pm36 an36 cd36 ct36),
    (PySem.W.fnOf "_law_firm_right" "_law_firm_right" (defArgs _law_firm_right_s) (defBody _law_firm_right_s) (defScope _law_firm_right_s) .none kV37 dc37 pm37 an37 cd37 ct37),
    (PySem.W.fnOf "_law_right" "_law_right" (defArgs _law_right_s) (defBody _law_right_s) (defScope _law_right_s) .none kV38 dc38 pm38 an38 cd38 ct38),
    (PySem.W.fnOf "law" "law" (defArgs law_s) (defBody law_s) (defScope law_s) .none kV39 dc39 pm39 an39 cd39 ct39)].getD i (PySem.W.fnOf "law" "law" (defArgs law_s) (defBody law_s) (defScope law_s) .none kV39 dc39 pm39 an39 cd39 ct39)
  have T : Txt K mg fa_ fd_ C (fun i => [tk0].getD i tk0) := ⟨F0, PySem.W.mg_of X G a0, b0, F1, PySem.W.mg_of X G a1, b1, F2, PySem.W.mg_of X G a2, b2, F3, PySem.W.mg_of X G a3, b3, F4, PySem.W.mg_of X G a4, b4, F5, b5, F6, b6, F7, b7, F8, b8, F9, b9, F10, PySem.W.mg_of X G a10, b10, F11, PySem.W.mg_of X G a11, b11, F12, PySem.W.mg_of X G a12, b12, F13, PySem.W.mg_of X G a13, b13, F14, PySem.W.mg_of X G a14, b14, F15, PySem.W.mg_of X G a15, b15, F16, PySem.W.mg_of X G a16, b16, F17, PySem.W.mg_of X G a17, b17, F18, PySem.W.mg_of X G a18, b18, F19, PySem.W.mg_of X G a19, b19, F20, PySem.W.mg_of X G a20, b20, F21, PySem.W.mg_of X G a21, b21, F22, PySem.W.mg_of X G a22, b22, F23, PySem.W.mg_of X G a23, b23, F24, PySem.W.mg_of X G a24, b24, F25, PySem.W.mg_of X G a25, b25, F26, PySem.W.mg_of X G a26, b26, F27, PySem.W.mg_of X G a27, b27, F28, PySem.W.mg_of X G a28, b28, F29, PySem.W.mg_of X G a29, b29, F30, PySem.W.mg_of X G a30, b30, F31, PySem.W.mg_of X G a31, b31, F32, PySem.W.mg_of X G a32, b32, F33, PySem.W.mg_of X G a33, b33, F34, PySem.W.mg_of X G a34, b34, F35, PySem.W.mg_of X G a35, b35, F36, PySem.W.mg_of X G a36, b36, F37, PySem.W.mg_of X G a37, b37, F38, PySem.W.mg_of X G a38, b38, F39, PySem.W.mg_of X G a39, b39, PySem.W.mg_of X G vMOST_VALUES, PySem.W.mg_none_of X G zisinstance, PySem.W.mg_none_of X G zint, PySem.W.mg_none_of X G zbool, PySem.W.mg_none_of X G zlist, PySem.W.mg_none_of X G ztuple, PySem.W.mg_none_of X G zall, PySem.W.mg_none_of X G zlen, PySem.W.mg_none_of X G zenumerate, PySem.W.mg_none_of X G zrange, PySem.W.mg_none_of X G zsorted, PySem.W.mg_none_of X G zset, PySem.W.mg_none_of X G zabs, PySem.W.mg_none_of X G zmax, PySem.W.mg_none_of X G zdivmod, PySem.W.mg_none_of X G zmin⟩
  have U : TxC K mg fa_ C := ⟨⟨pg, hd, po, sa⟩, n1, ⟨mk, a5, i5, kc⟩, PySem.W.mg_of X G aC, ⟨a6, i6, k6⟩, ⟨a7, i7, k7⟩, ⟨a8, i8, k8⟩, ⟨a9, i9, k9⟩⟩
  have D : TxD K C := ⟨dha, dhn, dht, dhm, dow⟩
  have w22 : kwR K (fd_ 22) "table" "thresholds" := ⟨fun s us ws _ h1 h2 => .of_eq (match us, ws, h1, h2 with | [], [_, _], _, _ => rfl), fun r1 r2 => r1.append (vals_rev r2)⟩
  have w23 : kwR K (fd_ 23) "table" "thresholds" := ⟨fun s us ws _ h1 h2 => .of_eq (match us, ws, h1, h2 with | [], [_, _], _, _ => rfl), fun r1 r2 => r1.append (vals_rev r2)⟩
  have w20 : kwR3 K (fd_ 20) "table" "thresholds" "shower" := ⟨fun s us ws _ h1 h2 => .of_eq (match us, ws, h1, h2 with | [], [_, _, _], _, _ => rfl), fun r1 r2 => r1.append (vals_rev r2)⟩
  have w25 : kwR3 K (fd_ 25) "table" "thresholds" "value" := ⟨fun s us ws _ h1 h2 => .of_eq (match us, ws, h1, h2 with | [], [_, _, _], _, _ => rfl), fun r1 r2 => r1.append (vals_rev r2)⟩
  exact ⟨fd_ 39, fun s v => .of_eq rfl, fun base _ _ => ok_law T U D w20 w22 w23 w25⟩
end K31

set_option maxRecDepth 100000
set_option maxHeartbeats 4000000
namespace Kh
open PySem PySem.Spec PyProof.Rows L2
/-! the law's promise where the guards are told -/
section
variable {P : Program} {w : World} {K : PySem.W.Frag} {mg mb : Str → Option Value} {s : Shared} {H : Hp} {a b : Addr} {o : Obj}
/-- what stands behind the top -/
structure Top (K : PySem.W.Frag) (mg mb : Str → Option Value) (s : Shared) : Prop where
  kin : K.In s.heap
  own : s.heap.Ns mainGlobals mg
  bui : s.heap.Ns builtinsNs mb
  boot : ∀ y : Str, y ≠ "__name__" → mb y = bootBuiltins y
  lim : s.heap.NoLimit
  gen : s.gens = #[]
/-- H knows frozen lists alone, none of them of K -/
def Thin (K : PySem.W.Frag) (s : Shared) (H : Hp) : Prop := ∀ c u, H c = some u → K.lookup c = none ∧ ∃ p xs v n, u = .frz p (.lst xs) ∧ s.heap.get? c = some p ∧ p.data = .seq v n
theorem Thin.get (t : Thin K s H) (g : s.heap.get? b = some o) (n : K.lookup b ≠ none ∨ ∃ es ep, o.data = .dict es ep) : (hidT s.heap H).get? b = some o := by
  refine hidT_get g (Classical.byContradiction fun z => ?_)
  obtain ⟨u, hu⟩ := Option.ne_none_iff_exists'.mp z
  obtain ⟨k, p, xs, v, m, _, g2, d⟩ := t b u hu
  rcases n with n | ⟨es, ep, n⟩
  · exact n k
  · rw [Option.some.inj (g.symm.trans g2), d] at n
    cases n
theorem Thin.ns {m : Str → Option Value} (t : Thin K s H) (h : s.heap.Ns b m) : (hidT s.heap H).Ns b m := by
  obtain ⟨p, es, ep, g, d, r⟩ := h
  exact ⟨p, es, ep, t.get g (.inr ⟨es, ep, d⟩), d, r⟩
theorem Thin.kin (t : Thin K s H) (h : K.In s.heap) : K.In (hidT s.heap H) := fun c p l => t.get (h c p l) (.inl (by rw [l]; exact fun z => nomatch z))
theorem Top.env (T : Top K mg mb s) (t : Thin K s H) (ok : HOk P w H s.heap) : Env0 P w K mg (hidT s.heap H) callerA [] s H where
  frames := rfl
  mod := ⟨t.kin T.kin, t.ns T.own, ⟨mb, t.ns T.bui, T.boot⟩, by
    obtain ⟨mc, l1, l2⟩ := T.lim
    exact ⟨mc, t.ns l1, l2⟩⟩
  bs := fun _ _ g => of_hidT g
  bsz := Nat.le_of_eq (hidT_size _ _)
  funs := trivial
  frf := fun _ z => nomatch z
  hok := ok
  bare := .of_eq T.gen
/-- a call of the law has ended so -/
theorem Thin.done (t : Thin K s H) (ok : HOk P w H s.heap) {r : Result} {s' : Shared} (h : CR CX0 [] P w H s (fun v _ => v = .bl true) (fun _ _ _ => False) r s') : r = .ok (.ret (.bool true)) ∧ OldK s.heap s'.heap ∧ s'.os = s.os ∧ AllBare s'.gens := by
  match r, h with
  | .ok (.ret u), ⟨v, H', eo, ab, n, ok', rv, q⟩ =>
    have q : v = .bl true := q
    rw [q] at rv
    have rv : u = Value.bool true := rv
    refine ⟨by rw [rv], OldK.of_keep fun c p g => ?_, eo, ab⟩
    cases e : H c with
    | none => exact n.keep c p g e (fun z => nomatch z) (fun z => nomatch z)
    | some x =>
      obtain ⟨_, p', xs, _, _, rfl, _⟩ := t c x e
      rw [(ok c _ e).1] at g
      rw [← g]
      exact (ok' c _ (n.frzs c p' _ e)).1
/-- the script, known -/
theorem thin_of {vs : List Value} {ns : List Int} (T : Top K mg mb s) (g : s.heap.get? a = some { cls := .type "list", data := .seq vs.toArray }) (r : IntsAre vs ns) (l : ns.length ≤ sizeLine) : ∃ H, Thin K s H ∧ HOk P w H s.heap ∧ SqL K H a (ns.map V.int) := by
  by_cases k : K.lookup a = none
  · refine ⟨upd (fun _ => none) a (.frz { cls := .type "list", data := .seq vs.toArray } (.lst (ns.map V.int))), ?_, ?_, .inl (.inr ⟨_, upd_same⟩)⟩
    all_goals
      intro c u hu
      by_cases e : c = a
      · rw [e, upd_same] at hu
        obtain rfl := Option.some.inj hu
        rw [e]
        first
          | exact ⟨k, _, _, _, _, rfl, g, rfl⟩
          | exact ⟨g, by rw [List.length_map]; exact l, vs, _, vals_ints r, g⟩
      · rw [upd_ne e] at hu
        cases hu
  · obtain ⟨p, hp⟩ := Option.ne_none_iff_exists'.mp k
    obtain rfl := Option.some.inj (g.symm.trans (T.kin a p hp))
    exact ⟨fun _ => none, fun _ _ z => (nomatch z), fun _ _ z => (nomatch z), .inr ⟨_, vs.toArray, _, hp, rfl, rfl, rfl, by rw [List.size_toArray, r.length]; exact l, by simpa using vals_ints r⟩⟩
end
/-- from the promise of the law's def to the walk of the law -/
theorem walk_g {l : PySem.W.OpenLaw} {n k : Nat} {q : Program} {loose : List Str} {XP : (Str → Option Value) → Heap → Prop} {YP : World → Heap → Prop} {d : DefRec} {K : Params → PySem.W.Frag} {sp : World → Sp} {x : Str} (most : l.most = some n) (le : n ≤ sizeLine) (df : d.params.defaults = []) (room : Room k callerA)
    (kin : ∀ (w : World) (h : Heap), YP w h → (K w.params).In h)
    (F : ∀ (w : World) (mg : Str → Option Value) (fa : Addr) (h : Heap), (K w.params).In h → h.Ns mainGlobals mg → mg d.name = some (.ref fa) → ∃ fd : FuncData, (∀ (s : Shared) (u : Value), BindsTo s fd ⟨[u], []⟩ [(x, u)]) ∧ ∀ base : Heap, (K w.params).In base → base.Ns mainGlobals mg → FnG l.prog w (K w.params) mg base k fa fd [x] (sp w))
    (holds : ∀ (w : World) (H : Hp) (a : Addr) (ns : List Int), ns.length ≤ n → SqL (K w.params) H a (ns.map V.int) → sp w [.ref a] H (fun v _ => v = .bl true) fun _ _ _ => False) : PySem.W.WalkO q loose XP YP l.row.toRowW d [] (fun f vs => PySem.call f vs) :=
  Att.attach_call most df fun w _ s mg mb fa _ _ _ _ a vs ns G Y _ _ _ hf hs hi hl hg => by
    have T : Top (K w.params) mg mb s := ⟨kin w _ Y, G.T.g, G.T.b, G.T.builtins, G.T.nolimit, hg⟩
    obtain ⟨fd, bd, R⟩ := F w mg fa _ T.kin T.own hf
    obtain ⟨H, t, ok, sq⟩ := thin_of (P := l.prog) (w := w) T hs hi (Nat.le_trans hl le)
    exact codeAny_mono ((R _ (t.kin T.kin) (t.ns T.own)).run callerA [] s H ⟨[.ref a], []⟩ [.ref a] [.ref a] _ _ rfl room (T.env t ok) (bd s (.ref a)) (.cons rfl .nil) (holds w H a ns hl sq)) fun r s' h => t.done ok h
end Kh

set_option maxRecDepth 100000
namespace K31
open PySem PySem.Spec PyProof.Rows L2 Kh
theorem walk {l : PySem.W.OpenLaw} {q : Program} {loose : List Str} {XP : (Str → Option Value) → Heap → Prop} {YP : World → Heap → Prop} {d : DefRec} {K : Params → PySem.W.Frag} (m1 : l.most = some 63) (m2 : d.params.defaults = [])
    (m3 : ∀ (w : World) (h : Heap), YP w h → (K w.params).In h)
    (Fl : ∀ (w : World) (mg : Str → Option Value) (fa : Addr) (h : Heap), (K w.params).In h → h.Ns mainGlobals mg → mg d.name = some (.ref fa) → ∃ fd : FuncData, (∀ (s : Shared) (u : Value), BindsTo s fd ⟨[u], []⟩ [("_law_script", u)]) ∧ ∀ base : Heap, (K w.params).In base → base.Ns mainGlobals mg → FnG l.prog w (K w.params) mg base 14 fa fd ["_law_script"] (spLaw (K w.params))) :
    PySem.W.WalkO q loose XP YP l.row.toRowW d [] (fun f vs => PySem.call f vs) :=
  walk_g (n := 63) (k := 14) (x := "_law_script") (sp := fun w => spLaw (K w.params)) m1 (by decide) m2 ⟨rfl, by decide, by decide⟩ m3 Fl fun _ _ a ns hl hS => ⟨a, ns, rfl, hS, Nat.le_trans hl (by decide), fun _ => rfl⟩
end K31

open PySem PySem.W PyProof.Rows in
set_option maxRecDepth 100000 in
set_option maxHeartbeats 0 in
theorem PySem.Challenge.cw_oneshelf_k44_whole_thresholds_and_shower_holds : PySem.Challenge.rw_oneshelf_k44_whole_thresholds_and_shower.Holds := by
  w_on; o_law; k_head; (case hw => w_witness2)
  k_fill
  refine K31.walk (l := PySem.Challenge.rw_oneshelf_k44_whole_thresholds_and_shower) rfl rfl (fun w h Y => PySem.W.kIn_of Y) ?F
  case F =>
    intro w mg fa h KX G hmg
    refine' K31.all_mk KX G hmg ?a0 ?l0 ?c0 ?k0 ?a1 ?l1 ?c1 ?k1 ?a2 ?l2 ?c2 ?k2 ?a3 ?l3 ?c3 ?k3 ?a4 ?l4 ?c4 ?k4 ?a5 ?i5 ?l5 ?c5 ?k5 ?a6 ?i6 ?l6 ?c6 ?k6 ?a7 ?i7 ?l7 ?c7 ?k7 ?a8 ?i8 ?l8 ?c8 ?k8 ?a9 ?i9 ?l9 ?c9 ?k9 ?a10 ?l10 ?c10 ?k10 ?a11 ?l11 ?c11 ?k11 ?a12 ?l12 ?c12 ?k12 ?a13 ?l13 ?c13 ?k13 ?a14 ?l14 ?c14 ?k14 ?a15 ?l15 ?c15 ?k15 ?a16 ?l16 ?c16 ?k16 ?a17 ?l17 ?c17 ?k17 ?a18 ?l18 ?c18 ?k18 ?a19 ?l19 ?c19 ?k19 ?a20 ?l20 ?c20 ?k20 ?a21 ?l21 ?c21 ?k21 ?a22 ?l22 ?c22 ?k22 ?a23 ?l23 ?c23 ?k23 ?a24 ?l24 ?c24 ?k24 ?a25 ?l25 ?c25 ?k25 ?a26 ?l26 ?c26 ?k26 ?a27 ?l27 ?c27 ?k27 ?a28 ?l28 ?c28 ?k28 ?a29 ?l29 ?c29 ?k29 ?a30 ?l30 ?c30 ?k30 ?a31 ?l31 ?c31 ?k31 ?a32 ?l32 ?c32 ?k32 ?a33 ?l33 ?c33 ?k33 ?a34 ?l34 ?c34 ?k34 ?a35 ?l35 ?c35 ?k35 ?a36 ?l36 ?c36 ?k36 ?a37 ?l37 ?c37 ?k37 ?a38 ?l38 ?c38 ?k38 ?a39 ?l39 ?c39 ?k39 ?aC ?pg ?hd ?po ?sa ?mk ?kc ?n1 ?dha ?dhn ?dht ?dhm ?dow ?vMOST_VALUES ?zisinstance ?zint ?zbool ?zlist ?ztuple ?zall ?zlen ?zenumerate ?zrange ?zsorted ?zset ?zabs ?zmax ?zdivmod ?zmin
    (case aC => k_is)
    (case a0 => k_is)
    (case l0 => k_is)
    (case c0 => k_is)
    (case k0 => k_is)
    (case a1 => k_is)
    (case l1 => k_is)
    (case c1 => k_is)
    (case k1 => k_is)
    (case a2 => k_is)
    (case l2 => k_is)
    (case c2 => k_is)
    (case k2 => k_is)
    (case a3 => k_is)
    (case l3 => k_is)
    (case c3 => k_is)
    (case k3 => k_is)
    (case a4 => k_is)
    (case l4 => k_is)
    (case c4 => k_is)
    (case k4 => k_is)
    (case a5 => k_is)
    (case i5 => k_is)
    (case l5 => k_is)
    (case c5 => k_is)
    (case k5 => k_is)
    (case a6 => k_is)
    (case i6 => k_is)
    (case l6 => k_is)
    (case c6 => k_is)
    (case k6 => k_is)
    (case a7 => k_is)
    (case i7 => k_is)
    (case l7 => k_is)
    (case c7 => k_is)
    (case k7 => k_is)
    (case a8 => k_is)
    (case i8 => k_is)
    (case l8 => k_is)
    (case c8 => k_is)
    (case k8 => k_is)
    (case a9 => k_is)
    (case i9 => k_is)
    (case l9 => k_is)
    (case c9 => k_is)
    (case k9 => k_is)
    (case a10 => k_is)
    (case l10 => k_is)
    (case c10 => k_is)
    (case k10 => k_is)
    (case a11 => k_is)
    (case l11 => k_is)
    (case c11 => k_is)
    (case k11 => k_is)
    (case a12 => k_is)
    (case l12 => k_is)
    (case c12 => k_is)
    (case k12 => k_is)
    (case a13 => k_is)
    (case l13 => k_is)
    (case c13 => k_is)
    (case k13 => k_is)
    (case a14 => k_is)
    (case l14 => k_is)
    (case c14 => k_is)
    (case k14 => k_is)
    (case a15 => k_is)
    (case l15 => k_is)
    (case c15 => k_is)
    (case k15 => k_is)
    (case a16 => k_is)
    (case l16 => k_is)
    (case c16 => k_is)
    (case k16 => k_is)
    (case a17 => k_is)
    (case l17 => k_is)
    (case c17 => k_is)
    (case k17 => k_is)
    (case a18 => k_is)
    (case l18 => k_is)
    (case c18 => k_is)
    (case k18 => k_is)
    (case a19 => k_is)
    (case l19 => k_is)
    (case c19 => k_is)
    (case k19 => k_is)
    (case a20 => k_is)
    (case l20 => k_is)
    (case c20 => k_is)
    (case k20 => k_is)
    (case a21 => k_is)
    (case l21 => k_is)
    (case c21 => k_is)
    (case k21 => k_is)
    (case a22 => k_is)
    (case l22 => k_is)
    (case c22 => k_is)
    (case k22 => k_is)
    (case a23 => k_is)
    (case l23 => k_is)
    (case c23 => k_is)
    (case k23 => k_is)
    (case a24 => k_is)
    (case l24 => k_is)
    (case c24 => k_is)
    (case k24 => k_is)
    (case a25 => k_is)
    (case l25 => k_is)
    (case c25 => k_is)
    (case k25 => k_is)
    (case a26 => k_is)
    (case l26 => k_is)
    (case c26 => k_is)
    (case k26 => k_is)
    (case a27 => k_is)
    (case l27 => k_is)
    (case c27 => k_is)
    (case k27 => k_is)
    (case a28 => k_is)
    (case l28 => k_is)
    (case c28 => k_is)
    (case k28 => k_is)
    (case a29 => k_is)
    (case l29 => k_is)
    (case c29 => k_is)
    (case k29 => k_is)
    (case a30 => k_is)
    (case l30 => k_is)
    (case c30 => k_is)
    (case k30 => k_is)
    (case a31 => k_is)
    (case l31 => k_is)
    (case c31 => k_is)
    (case k31 => k_is)
    (case a32 => k_is)
    (case l32 => k_is)
    (case c32 => k_is)
    (case k32 => k_is)
    (case a33 => k_is)
    (case l33 => k_is)
    (case c33 => k_is)
    (case k33 => k_is)
    (case a34 => k_is)
    (case l34 => k_is)
    (case c34 => k_is)
    (case k34 => k_is)
    (case a35 => k_is)
    (case l35 => k_is)
    (case c35 => k_is)
    (case k35 => k_is)
    (case a36 => k_is)
    (case l36 => k_is)
    (case c36 => k_is)
    (case k36 => k_is)
    (case a37 => k_is)
    (case l37 => k_is)
    (case c37 => k_is)
    (case k37 => k_is)
    (case a38 => k_is)
    (case l38 => k_is)
    (case c38 => k_is)
    (case k38 => k_is)
    (case a39 => k_is)
    (case l39 => k_is)
    (case c39 => k_is)
    (case k39 => k_is)
    (case pg => k_is)
    (case hd => k_is)
    (case po => k_is)
    (case sa => k_is)
    (case mk => k_is)
    (case kc => k_is)
    (case n1 => k_is)
    (case dha => k_is)
    (case dhn => k_is)
    (case dht => k_is)
    (case dhm => k_is)
    (case dow => exact if_pos (beq_self_eq_true _))
    (case vMOST_VALUES => k_is)
    (case zisinstance => k_is)
    (case zint => k_is)
    (case zbool => k_is)
    (case zlist => k_is)
    (case ztuple => k_is)
    (case zall => k_is)
    (case zlen => k_is)
    (case zenumerate => k_is)
    (case zrange => k_is)
    (case zsorted => k_is)
    (case zset => k_is)
    (case zabs => k_is)
    (case zmax => k_is)
    (case zdivmod => k_is)
    (case zmin => k_is)

