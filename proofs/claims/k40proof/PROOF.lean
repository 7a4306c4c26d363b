import PyProof.Rows.All
import Wide.All
import OpenK.AllK
import Wide.FinOn
import HandS.ForMost
import HandS.IsInst
import HandS.Walk
import PyProof.AutoSeq1
import HandS.DictComp
import HandS.Property
import HandS.OwnEq
import HandS.MakeKwOnly
import HandS.ClsMeth
import HandS.Star
import PyProof.InstNe
import HandS.FStr
import HandS.Small
import PyProof.ReprRoads
import PyProof.ReprLen
import PyProof.EqLayable
import HandS.SetFor
import HandS.Strs
import HandS.SortOrd
import HandS.Zip
import KE.SortData
import HandS.WideBits
import HandS.RaiseMore
import HandS.Deep
import HandS.Conv
import HandS.Style
import HandS.TryMany
import HandS.ExcField
import HandS.ExcInit
import KE.KExcIs
import KE.KIsAll
import HandS.Lambda
import KE.GoesEnum
import HandS.WordsExc
import HandS.TryOnly
import KE.KxIndex
import HandS.Ends
import HandS.EndTab
import HandS.ExcIs
import PySem.Challenge.RW_oneshelf_k40_tables_and_results
set_option Elab.async false
set_option linter.all false
set_option maxRecDepth 100000
/-! data in the abstract heap, apart from a set of addresses that are still worked on -/
namespace Kh
open PySem PySem.Spec PyProof.Rows L2

/-! ### heaps -/
theorem same_new {H : Hp} {p : Addr} {o : HO} (h : H p = none) : Same H (upd H p o) := fun b x e => by
  rw [upd_ne (ne_of_none e h)]; exact e
theorem sup {H H1 : Hp} {p : Addr} {o : HO} (x : Same H H1) (h : H1 p = none) : Same H (upd H1 p o) := x.trans (same_new h)
/-- an object that H doesn't know may change -/
theorem smut {H H1 : Hp} {p : Addr} {o : HO} (x : Same H H1) (h : H p = none) : Same H (upd H1 p o) := fun b u e => by
  rw [upd_ne (ne_of_none e h)]; exact x b u e
theorem same_t {K : PySem.W.Frag} {H H' : Hp} {a : Addr} {xs : List V} (e : Same H H') (h : SqT K H a xs) : SqT K H' a xs := by
  rcases h with (h | ⟨o, h⟩) | h
  · exact .inl (.inl (e _ _ h))
  · exact .inl (.inr ⟨o, e _ _ h⟩)
  · exact .inr h
theorem some_ne {H : Hp} {a : Addr} {o : HO} (h : H a = some o) : H a ≠ none := by rw [h]; exact fun z => nomatch z
theorem same_ne {H H' : Hp} (e : Same H H') {a : Addr} (h : H a ≠ none) : H' a ≠ none := by
  cases q : H a with
  | none => exact (h q).elim
  | some o => rw [e a o q]; exact fun z => nomatch z
theorem sqL {K : PySem.W.Frag} {H : Hp} {a : Addr} {xs : List V} (h : H a = some (.lst xs)) : SqL K H a xs := .inl (.inl h)
theorem sqT {K : PySem.W.Frag} {H : Hp} {a : Addr} {xs : List V} (h : H a = some (.tup xs)) : SqT K H a xs := .inl (.inl h)

mutual
theorem dp_same {K : PySem.W.Frag} {H H' : Hp} (e : Same H H') : ∀ (d : PyData) (v : V), Dp K H v d → Dp K H' v d
  | .none, _, h => by cases h; exact .non
  | .bool b, _, h => by cases h; exact .bl b
  | .int i, _, h => by cases h; exact .int i
  | .str x, _, h => by cases h; exact .str x
  | .list ds, _, h => by
    cases h with
    | lst hs ha => exact .lst (e.seq hs) (dpa_same e ds _ ha)
  | .tuple ds, _, h => by
    cases h with
    | tup hs ha => exact .tup (same_t e hs) (dpa_same e ds _ ha)
  | .dict _, _, h => by cases h
theorem dpa_same {K : PySem.W.Frag} {H H' : Hp} (e : Same H H') : ∀ (ds : List PyData) (vs : List V), DpAll K H vs ds → DpAll K H' vs ds
  | [], _, h => by cases h; exact .nil
  | d :: ds, _, h => by
    cases h with
    | cons h1 h2 => exact .cons (dp_same e d _ h1) (dpa_same e ds _ h2)
end
theorem dpa_len {K : PySem.W.Frag} {H : Hp} : ∀ {vs : List V} {ds : List PyData}, DpAll K H vs ds → vs.length = ds.length
  | _, _, .nil => rfl
  | _, _, .cons _ t => by rw [List.length_cons, List.length_cons, dpa_len t]
theorem dpa_get {K : PySem.W.Frag} {H : Hp} : ∀ {vs : List V} {ds : List PyData} {i : Nat} {d : PyData}, DpAll K H vs ds → ds[i]? = some d → ∃ v, vs[i]? = some v ∧ Dp K H v d
  | _, _, _, _, .nil, e => by simp at e
  | _, _, 0, d, .cons (v := v) h _, e => by simp at e; subst e; exact ⟨v, by simp, h⟩
  | _, _, i + 1, d, .cons _ t, e => by
    obtain ⟨v, h1, h2⟩ := dpa_get (i := i) t (by simpa using e)
    exact ⟨v, by simpa using h1, h2⟩
theorem dpa_at {K : PySem.W.Frag} {H : Hp} : ∀ {vs : List V} {ds : List PyData} {i : Nat} {v : V}, DpAll K H vs ds → vs[i]? = some v → ∃ d, ds[i]? = some d ∧ Dp K H v d
  | _, _, _, _, .nil, e => by simp at e
  | _, _, 0, v, .cons (d := d) h _, e => by simp at e; subst e; exact ⟨d, by simp, h⟩
  | _, _, i + 1, v, .cons _ t, e => by
    obtain ⟨d, h1, h2⟩ := dpa_at (i := i) t (by simpa using e)
    exact ⟨d, by simpa using h1, h2⟩
theorem dpa_app {K : PySem.W.Frag} {H : Hp} : ∀ {vs ws : List V} {ds es : List PyData}, DpAll K H vs ds → DpAll K H ws es → DpAll K H (vs ++ ws) (ds ++ es)
  | _, _, _, _, .nil, t => t
  | _, _, _, _, .cons h s, t => .cons h (dpa_app s t)
theorem dpa_of {K : PySem.W.Frag} {H : Hp} : ∀ {vs : List V} {ds : List PyData}, vs.length = ds.length → (∀ (i : Nat) v d, vs[i]? = some v → ds[i]? = some d → Dp K H v d) → DpAll K H vs ds
  | [], [], _, _ => .nil
  | v :: vs, d :: ds, l, h => .cons (h 0 v d rfl rfl) (dpa_of (by simpa using l) fun i a b h1 h2 => h (i + 1) a b (by simpa using h1) (by simpa using h2))
  | [], _ :: _, l, _ => by simp at l
  | _ :: _, [], l, _ => by simp at l

/-! ### the heap without some addresses -/
open Classical in
noncomputable def off (S : Addr → Prop) (H : Hp) : Hp := fun a => if S a then none else H a
/-- all of S is known -/
def Kn (S : Addr → Prop) (H : Hp) : Prop := ∀ a, S a → H a ≠ none
theorem off_out {S : Addr → Prop} {H : Hp} {a : Addr} (h : ¬ S a) : off S H a = H a := by unfold off; rw [if_neg h]
theorem off_in {S : Addr → Prop} {H : Hp} {a : Addr} (h : S a) : off S H a = none := by unfold off; rw [if_pos h]
theorem off_some {S : Addr → Prop} {H : Hp} {a : Addr} {o : HO} (h : off S H a = some o) : ¬ S a ∧ H a = some o := by
  by_cases q : S a
  · rw [off_in q] at h; cases h
  · rw [off_out q] at h; exact ⟨q, h⟩
theorem off_sub {S : Addr → Prop} {H : Hp} : Same (off S H) H := fun _ _ e => (off_some e).2
theorem off_same {S : Addr → Prop} {H H' : Hp} (e : Same H H') : Same (off S H) (off S H') := fun a o h => by
  obtain ⟨n, h⟩ := off_some h
  rw [off_out n]; exact e a o h
theorem off_less {S S' : Addr → Prop} {H : Hp} (h : ∀ a, S a → S' a) : Same (off S' H) (off S H) := fun a o e => by
  obtain ⟨n, e⟩ := off_some e
  rw [off_out fun z => n (h a z)]; exact e
theorem off_mut {S : Addr → Prop} {H : Hp} {a : Addr} {o : HO} (h : S a) : off S (upd H a o) = off S H := by
  funext b
  by_cases q : S b
  · rw [off_in q, off_in q]
  · rw [off_out q, off_out q, upd_ne]; rintro rfl; exact q h
theorem Kn.same {S : Addr → Prop} {H H' : Hp} (k : Kn S H) (e : Same H H') : Kn S H' := fun a h => same_ne e (k a h)
theorem Kn.new {S : Addr → Prop} {H : Hp} (k : Kn S H) {a : Addr} (h : H a = none) : ¬ S a := fun z => k a z h
theorem Kn.upd {S : Addr → Prop} {H : Hp} (k : Kn S H) {a : Addr} {o : HO} : Kn S (upd H a o) := fun b h => by
  by_cases q : b = a
  · subst q; rw [upd_same]; exact fun z => nomatch z
  · rw [upd_ne q]; exact k b h
/-- one more -/
def plus (S : Addr → Prop) (a : Addr) : Addr → Prop := fun b => S b ∨ b = a
theorem Kn.plus {S : Addr → Prop} {H : Hp} (k : Kn S H) {a : Addr} (h : H a ≠ none) : Kn (plus S a) H := fun b z => by
  rcases z with z | rfl
  · exact k b z
  · exact h
def noS : Addr → Prop := fun _ => False
theorem kn_no {H : Hp} : Kn noS H := fun _ h => h.elim
theorem off_no {H : Hp} : off noS H = H := by funext a; exact off_out fun h => h.elim
end Kh

set_option maxRecDepth 100000
set_option maxHeartbeats 1000000
/-! comprehensions read as wholes; calls of defs that only make new things -/
namespace Kh
open PySem PySem.Spec PyProof.Rows L2

/-- either way of walking -/
theorem pi_or {X : Cx} {tg e : Expr} {w1 w2 : TI} (h1 : PI X tg e w1) (h2 : PI X tg e w2) : PI X tg e (fun σ H R => w1 σ H R ∨ w2 σ H R) :=
  ⟨fun pins s σ H R I h => h.elim (h1.run pins s σ H R I) (h2.run pins s σ H R I)⟩
theorem pe_alt {X : Cx} {e : Expr} {t u : TE} (h1 : PE X e t) (h2 : PE X e u) : PE X e (fun σ H Q => t σ H Q ∨ u σ H Q) :=
  ⟨fun pins s σ H Q I h => h.elim (h1.run pins s σ H Q I) (h2.run pins s σ H Q I)⟩
/-- a list or a tuple -/
theorem pi_any {X : Cx} {tg e : Expr} {t : TE} (h : PE X e t) : PI X tg e (fun σ H R => iList X.K t σ H R ∨ iTup X.K t σ H R) := pi_or (pi_list h) (pi_tup h)

/-- grown but for what stands at D -/
def SameBut (D : Addr) (H H' : Hp) : Prop := ∀ b o, b ≠ D → H b = some o → H' b = some o
theorem sbut {D : Addr} {H H' : Hp} (e : Same H H') : SameBut D H H' := fun b o _ h => e b o h
theorem bmut {D : Addr} {H H' : Hp} {o : HO} (e : SameBut D H H') : SameBut D H (upd H' D o) := fun b u n h => by rw [upd_ne n]; exact e b u n h
theorem off_but {S : Addr → Prop} {D : Addr} {H H' : Hp} (e : SameBut D H H') : Same (off (plus S D) H) (off (plus S D) H') := fun b o h => by
  obtain ⟨n, h⟩ := off_some h
  rw [off_out n]
  exact e b o (fun z => n (.inr z)) h

theorem paired_app {α β : Type} {F : α → β → Prop} : ∀ {l l2 : List α} {m m2 : List β}, Paired F l m → Paired F l2 m2 → Paired F (l ++ l2) (m ++ m2)
  | _, _, _, _, .nil, q => q
  | _, _, _, _, .cons r t, q => .cons r (paired_app t q)
section
variable {J : It} {n : Nat} {G : Hp → Prop} {Y : Nat → Hp → V → Hp → Prop} {te : TE} {tt : TT} {sl : Nat} {vs : List Nat} {σ : L2.St} {H1 : Hp} {D : Addr} {Qd : Hp → Prop}

theorem lc_filt (w : Walk J n G Y) (Xp : Nat → V → Prop) (hY : ∀ i H x H', i < n → Y i H x H' → H' = H ∧ Xp i x) (pt : Nat → Bool) (P : Nat → V → Hp → Prop)
    (hG : ∀ H, Same H1 H → G H) (hD : H1 D = none) (hn : n ≤ 100000) (hw : ∀ x, wipe ((wipe σ vs).set sl (some x)) vs = wipe σ vs)
    (hP : ∀ j y H H', SameBut D H H' → P j y H → P j y H')
    (test : ∀ j x H, j < n → Xp j x → Same H1 H → H D ≠ none → ∀ Q : Bool → Hp → Prop, (∀ H', Same H H' → Q (pt j) H') → tt ((wipe σ vs).set sl (some x)) H Q)
    (body : ∀ j x H, j < n → Xp j x → pt j = true → Same H1 H → H D ≠ none → ∀ Q : VK, (∀ y H', Same H H' → P j y H' → Q y H') → te ((wipe σ vs).set sl (some x)) H Q)
    (done : ∀ ys H, Paired (fun j y => P j y H) ((List.range n).filter pt) ys → Same H1 H → H D = some (.lst ys) → Qd H) :
    ∃ W : Nat → Nat → Hp → Prop, (∃ m, W 0 m (upd H1 D (.lst []))) ∧ ∀ i m H, W i m H →
      (J.stop i H ∧ Qd H) ∨ (J.go i H ∧ ∃ Nx : Hp → Prop, (∀ H', Nx H' → ∃ m', m' < m ∧ W (i + 1) m' H') ∧ ∀ x H', J.yld i H x H' → gName sl x (wipe σ vs) H' fun σ2 H2 => wipe σ2 vs = wipe σ vs ∧ tt σ2 H2 fun b H3 =>
        if b = true then te σ2 H3 fun y H4 => ∃ acc, H4 D = some (.lst acc) ∧ acc.length < sizeLine ∧ Nx (upd H4 D (.lst (acc ++ [y]))) else Nx H3) := by
  have mono : ∀ {l : List Nat} {ys : List V} {H H' : Hp}, SameBut D H H' → Paired (fun j y => P j y H) l ys → Paired (fun j y => P j y H') l ys := fun e p => Paired.mapP p fun a b q => hP a b _ _ e q
  have lenP : ∀ {l : List Nat} {ys : List V} {H : Hp}, Paired (fun j y => P j y H) l ys → l.length = ys.length := fun p => Paired.length p
  refine lc_it w (Pv := fun i H => ∃ ys, Paired (fun j y => P j y H) ((List.range i).filter pt) ys ∧ Same H1 H ∧ H D = some (.lst ys)) ⟨[], .nil, same_new hD, upd_same⟩ (fun i H _ ⟨_, _, s, _⟩ => hG H s) ?_ ?_
  · rintro i x H H' hi ⟨ys, py, s, hd⟩ y
    obtain ⟨rfl, xp⟩ := hY i H x H' hi y
    refine ⟨hw x, test i x H' hi xp s (some_ne hd) _ fun H2 s2 => ?_⟩
    have e : (List.range (i + 1)).filter pt = (List.range i).filter pt ++ (if pt i then [i] else []) := by
      rw [List.range_succ, List.filter_append]
      congr 1
      cases q : pt i <;> simp [q]
    cases hb : pt i with
    | true =>
      refine iteT (body i x H2 hi xp hb (s.trans s2) (some_ne (s2 _ _ hd)) _ fun z H3 s3 pz => ?_)
      have h3 := s3 _ _ (s2 _ _ hd)
      have hl : ys.length ≤ i := by
        rw [← lenP py]
        exact Nat.le_trans (List.length_filter_le _ _) (by simp)
      refine ⟨ys, h3, Nat.lt_of_le_of_lt (show ys.length ≤ 100000 by omega) (by decide), ys ++ [z], ?_, smut ((s.trans s2).trans s3) hD, upd_same⟩
      rw [e, hb]
      exact paired_app (mono ((bmut (sbut (s2.trans s3)))) py) (.cons (hP _ _ _ _ ((bmut (sbut (Same.refl _)))) pz) .nil)
    | false =>
      refine iteF ⟨ys, ?_, s.trans s2, s2 _ _ hd⟩
      rw [e, hb]
      simpa using mono (sbut s2) py
  · rintro H ⟨ys, py, s, hd⟩
    exact done ys H py s hd

theorem lc_map (w : Walk J n G Y) (Xp : Nat → V → Prop) (hY : ∀ i H x H', i < n → Y i H x H' → H' = H ∧ Xp i x) (P : Nat → V → Hp → Prop)
    (hG : ∀ H, Same H1 H → G H) (hD : H1 D = none) (hn : n ≤ 100000) (hw : ∀ x, wipe ((wipe σ vs).set sl (some x)) vs = wipe σ vs)
    (hP : ∀ j y H H', SameBut D H H' → P j y H → P j y H')
    (body : ∀ j x H, j < n → Xp j x → Same H1 H → H D ≠ none → ∀ Q : VK, (∀ y H', Same H H' → P j y H' → Q y H') → te ((wipe σ vs).set sl (some x)) H Q)
    (done : ∀ ys H, ys.length = n → (∀ j y, ys[j]? = some y → P j y H) → Same H1 H → H D = some (.lst ys) → Qd H) :
    ∃ W : Nat → Nat → Hp → Prop, (∃ m, W 0 m (upd H1 D (.lst []))) ∧ ∀ i m H, W i m H →
      (J.stop i H ∧ Qd H) ∨ (J.go i H ∧ ∃ Nx : Hp → Prop, (∀ H', Nx H' → ∃ m', m' < m ∧ W (i + 1) m' H') ∧ ∀ x H', J.yld i H x H' → gName sl x (wipe σ vs) H' fun σ2 H2 => wipe σ2 vs = wipe σ vs ∧ tYes σ2 H2 fun b H3 =>
        if b = true then te σ2 H3 fun y H4 => ∃ acc, H4 D = some (.lst acc) ∧ acc.length < sizeLine ∧ Nx (upd H4 D (.lst (acc ++ [y]))) else Nx H3) := by
  refine lc_it w (Pv := fun i H => ∃ ys, ys.length = i ∧ (∀ j y, ys[j]? = some y → P j y H) ∧ Same H1 H ∧ H D = some (.lst ys)) ⟨[], rfl, fun j y h => by simp at h, same_new hD, upd_same⟩ (fun i H _ ⟨_, _, _, s, _⟩ => hG H s) ?_ ?_
  · rintro i x H H' hi ⟨ys, hl, py, s, hd⟩ y
    obtain ⟨rfl, xp⟩ := hY i H x H' hi y
    refine ⟨hw x, iteT (B := Exists fun zs : List V => zs.length = i + 1 ∧ (∀ (j : Nat) (y : V), zs[j]? = some y → P j y H') ∧ Same H1 H' ∧ H' D = some (HO.lst zs)) ?_⟩
    refine body i x H' hi xp s (some_ne hd) _ fun z H3 s3 pz => ⟨ys, s3 _ _ hd, Nat.lt_of_le_of_lt (show ys.length ≤ 100000 by omega) (by decide), ys ++ [z], by simp [hl], fun j u hj => ?_, smut (s.trans s3) hD, upd_same⟩
    by_cases q : j < ys.length
    · rw [List.getElem?_append_left q] at hj
      exact hP _ _ _ _ ((bmut (sbut s3))) (py j u hj)
    · rw [List.getElem?_append_right (by omega)] at hj
      have e : j = i := by
        by_cases q2 : j - ys.length = 0
        · omega
        · rw [List.getElem?_eq_none_iff.mpr (by simp; omega)] at hj
          cases hj
      subst e
      rw [show j - ys.length = 0 by omega] at hj
      cases hj
      exact hP _ _ _ _ ((bmut (sbut (Same.refl _)))) pz
  · rintro H ⟨ys, hl, py, s, hd⟩
    exact done ys H hl py s hd
end

/-! ### promises over data -/
/-- a def of data that makes new data: of x, under pre, f x; what is in S stays out of it -/
def spP {α : Type} (K : PySem.W.Frag) (enc : α → List PyData) (pre : α → Prop) (f : α → PyData) : Sp := fun vs H Q _ => ∃ (S : Addr → Prop) (x : α), Kn S H ∧ DpAll K (off S H) vs (enc x) ∧ pre x ∧
  ∀ v H', Same H H' → Dp K (off S H') v (f x) → Q v H'
section
variable {α : Type} {K : PySem.W.Frag} {enc : α → List PyData} {pre : α → Prop} {f : α → PyData} {vs : List V} {H : Hp} {Q : VK} {E : XK}
theorem spP_len {n : Nat} (hn : ∀ x, (enc x).length = n) (h : spP K enc pre f vs H Q E) : vs.length = n := by
  obtain ⟨S, x, _, hd, _⟩ := h
  rw [← hn x]; exact dpa_len hd
/-- it is called, the answer flat -/
theorem spP_bl {b : Bool} {H0 : Hp} (e : Same H0 H) (x : α) (hd : DpAll K H0 vs (enc x)) (hp : pre x) (hf : f x = .bool b) (q : ∀ H', Same H H' → Q (.bl b) H') : spP K enc pre f vs H Q E := ⟨noS, x, kn_no, by rw [off_no]; exact dpa_same e _ _ hd, hp, fun v H' s h => by
  rw [hf] at h; cases h; exact q H' s⟩
theorem spP_int {b : Int} {H0 : Hp} (e : Same H0 H) (x : α) (hd : DpAll K H0 vs (enc x)) (hp : pre x) (hf : f x = .int b) (q : ∀ H', Same H H' → Q (.int b) H') : spP K enc pre f vs H Q E := ⟨noS, x, kn_no, by rw [off_no]; exact dpa_same e _ _ hd, hp, fun v H' s h => by
  rw [hf] at h; cases h; exact q H' s⟩
end
def d1 (d : PyData) : List PyData := [d]

/-! ### kinds of data -/
def tyN : PyData → String
  | .none => "NoneType"
  | .bool _ => "bool"
  | .int _ => "int"
  | .str _ => "str"
  | .list _ => "list"
  | .tuple _ => "tuple"
  | .dict _ => "dict"
end Kh

set_option maxRecDepth 100000
set_option maxHeartbeats 1000000
/-! operations on data -/
namespace Kh
open PySem PySem.Spec PyProof.Rows L2

theorem sq_ty {K : PySem.W.Frag} {H : Hp} {a : Addr} {xs : List V} (h : SqL K H a xs) : TyX K H (.ref a) (.type "list") := by
  rcases h with (h | ⟨o, h⟩) | ⟨o, its, n, h1, h2, _⟩
  · exact .base (.lst h)
  · exact .base (.frz h)
  · exact .kList h1 h2
theorem sqt_ty {K : PySem.W.Frag} {H : Hp} {a : Addr} {xs : List V} (h : SqT K H a xs) : TyX K H (.ref a) (.type "tuple") := by
  rcases h with (h | ⟨o, h⟩) | ⟨o, its, n, h1, h2, _⟩
  · exact .base (.tup h)
  · exact .fTuple h
  · exact .kTuple h1 h2
theorem tyx_d {K : PySem.W.Frag} {H : Hp} {v : V} {d : PyData} (h : Dp K H v d) : TyX K H v (.type (tyN d)) := by
  cases h with
  | non => exact .base .non
  | bl b => exact .base (.bl b)
  | int i => exact .base (.int i)
  | str x => exact .base (.str x)
  | lst hs _ => exact sq_ty hs
  | tup hs _ => exact sqt_ty hs
/-- isinstance(x, T) of data -/
theorem isi_d {K : PySem.W.Frag} {H0 H : Hp} {v : V} {d : PyData} {n : String} {b : Bool} {Q : VK} (e : Same H0 H) (h : Dp K H0 v d) (hk : kitB (tyN d) n = some b) (q : Q (.bl b) H) : rIsi K [v, .ty n] H Q :=
  ⟨v, .ty n, _, _, b, rfl, .ty n, tyx_d (dp_same e _ _ h), kit_ty hk, q⟩
theorem isi2_d {K : PySem.W.Frag} {H0 H : Hp} {v : V} {d : PyData} {n m : String} {b c : Bool} {Q : VK} {p : Addr} (e : Same H0 H) (h : Dp K H0 v d) (hp : H p = some (.tup [.ty n, .ty m])) (hk : kitB (tyN d) n = some b) (hc : kitB (tyN d) m = some c) (q : Q (.bl (b || c)) H) : rIsiT K [v, .ref p] H Q := by
  refine ⟨v, p, [.ty n, .ty m], .type (tyN d), [.type n, .type m], b || c, rfl, hp, .cons (.ty n) (.cons (.ty m) .nil), tyx_d (dp_same e _ _ h), ?_, q⟩
  refine kitAny_cons (kit_ty hk) (fun hb => ?_) (fun hb => by rw [hb]; rfl)
  refine kitAny_cons (kit_ty hc) (fun hd => ?_) (fun hd => by rw [hd]; cases b <;> rfl)
  rw [hb, hd]; exact kitAny_nil

/-- what a list or a tuple has -/
def items : PyData → Option (List PyData)
  | .list ds => some ds
  | .tuple ds => some ds
  | _ => none
theorem items_at {K : PySem.W.Frag} {H : Hp} {v : V} {d : PyData} {ds : List PyData} (h : Dp K H v d) (e : items d = some ds) : ∃ a xs, v = .ref a ∧ (SqL K H a xs ∨ SqT K H a xs) ∧ DpAll K H xs ds := by
  cases h with
  | non => cases e
  | bl b => cases e
  | int i => cases e
  | str x => cases e
  | lst hs ha => cases e; exact ⟨_, _, rfl, .inl hs, ha⟩
  | tup hs ha => cases e; exact ⟨_, _, rfl, .inr hs, ha⟩
theorem list_at {K : PySem.W.Frag} {H : Hp} {v : V} {ds : List PyData} (h : Dp K H v (.list ds)) : ∃ a xs, v = .ref a ∧ SqL K H a xs ∧ DpAll K H xs ds := by
  cases h with
  | lst hs ha => exact ⟨_, _, rfl, hs, ha⟩
theorem tup_at {K : PySem.W.Frag} {H : Hp} {v : V} {ds : List PyData} (h : Dp K H v (.tuple ds)) : ∃ a xs, v = .ref a ∧ SqT K H a xs ∧ DpAll K H xs ds := by
  cases h with
  | tup hs ha => exact ⟨_, _, rfl, hs, ha⟩
/-- x[i] of data, i written -/
theorem ix_d {K : PySem.W.Frag} {H0 H : Hp} {v : V} {d x : PyData} {ds : List PyData} {i : Nat} {Q : VK} (e : Same H0 H) (h : Dp K H0 v d) (hd : items d = some ds) (hi : ds[i]? = some x) (q : ∀ u, Dp K H0 u x → Q u H) : rIx K v (.int (i : Nat)) H Q := by
  obtain ⟨a, xs, rfl, hs, ha⟩ := items_at h hd
  obtain ⟨u, hu, du⟩ := dpa_get ha hi
  rcases hs with hs | hs
  · exact .inl ⟨a, xs, i, u, rfl, rfl, e.seq hs, atI_nat hu, q u du⟩
  · exact .inr (.inl ⟨a, xs, i, u, rfl, rfl, same_t e hs, atI_nat hu, q u du⟩)
def rLen (K : PySem.W.Frag) : List V → Hp → VK → Prop := fun xs H Q => ∃ p ys, xs = [.ref p] ∧ (SqL K H p ys ∨ SqT K H p ys) ∧ Q (.int ys.length) H
theorem len_d {K : PySem.W.Frag} {H0 H : Hp} {v : V} {d : PyData} {ds : List PyData} {Q : VK} (e : Same H0 H) (h : Dp K H0 v d) (hd : items d = some ds) (q : Q (.int (ds.length : Nat)) H) : rLen K [v] H Q := by
  obtain ⟨a, xs, rfl, hs, ha⟩ := items_at h hd
  refine ⟨a, xs, rfl, hs.imp (fun z => e.seq z) (fun z => same_t e z), ?_⟩
  rw [dpa_len ha]; exact q

/-! ### whole numbers -/
def iD (n : Nat) : PyData := .int n
theorem dpa_ints {K : PySem.W.Frag} {H : Hp} : ∀ {ns : List Int} {vs : List V}, DpAll K H vs (ns.map PyData.int) → vs = ns.map V.int
  | [], _, h => by cases h; rfl
  | n :: ns, _, h => by
    cases h with
    | cons h1 h2 => cases h1; rw [dpa_ints h2]; rfl
theorem ints_dpa {K : PySem.W.Frag} {H : Hp} : ∀ ns : List Int, DpAll K H (ns.map V.int) (ns.map PyData.int)
  | [] => .nil
  | n :: ns => .cons (.int n) (ints_dpa ns)
theorem flat_ints : ∀ ns : List Int, (ns.map V.int).all flatV = true
  | [] => rfl
  | n :: ns => by rw [List.map_cons, List.all_cons, flat_ints ns]; rfl
theorem inV_ints (n : Int) : ∀ ns : List Int, inV (.int n) (ns.map V.int) = decide (n ∈ ns)
  | [] => by simp [inV]
  | m :: ns => by
    have ih := inV_ints n ns
    unfold inV at ih ⊢
    rw [List.map_cons, List.any_cons, ih]
    show ((m == n) || decide (n ∈ ns)) = decide (n ∈ m :: ns)
    by_cases q : m = n
    · subst q; simp
    · have q2 : ¬ n = m := fun z => q z.symm
      rw [show (m == n) = false from beq_eq_false_iff_ne.mpr q]
      simp [q2]
/-- n in xs, n not in xs -/
theorem in_d {K : PySem.W.Frag} {H0 H : Hp} {v : V} {d : PyData} {ns : List Int} {n : Int} {Q : VK} {neg : Bool} (e : Same H0 H) (h : Dp K H0 v d) (hd : items d = some (ns.map PyData.int)) (q : Q (.bl (if neg then !decide (n ∈ ns) else decide (n ∈ ns))) H) : rIn K neg (.int n) v H Q := by
  obtain ⟨a, xs, rfl, hs, ha⟩ := items_at h hd
  have ex := dpa_ints ha
  subst ex
  refine ⟨a, _, rfl, hs.imp (fun z => e.seq z) (fun z => same_t e z), rfl, flat_ints ns, ?_⟩
  rw [inV_ints]; exact q

/-! ### built-ins by names of their own -/
section
variable {X : Cx}
theorem call_lenR : CallR X (.builtin "len") (rLen X.K) := call_len_seq
def rTupOf (K : PySem.W.Frag) : List V → Hp → VK → Prop := fun xs H Q => ∃ p ys, xs = [.ref p] ∧ ((SqL K H p ys ∧ ∀ l, H l = none → Q (.ref l) (upd H l (.tup ys))) ∨ (SqT K H p ys ∧ Q (.ref p) H))
theorem call_tupR : CallR X (.type "tuple") (rTupOf X.K) := call_tuple_of
def rListOf (K : PySem.W.Frag) : List V → Hp → VK → Prop := fun xs H Q => ∃ p ys, xs = [.ref p] ∧ (SqL K H p ys ∨ SqT K H p ys) ∧ ∀ l, H l = none → Q (.ref l) (upd H l (.lst ys))
theorem call_listR : CallR X (.type "list") (rListOf X.K) := call_list_of
def rAbs : List V → Hp → VK → Prop := fun xs H Q => ∃ i, xs = [.int i] ∧ Q (.int (if i < 0 then -i else i)) H
theorem call_absR : CallR X (.builtin "abs") rAbs := call_abs
def rMax2 : List V → Hp → VK → Prop := fun xs H Q => ∃ i j, xs = [.int i, .int j] ∧ Q (.int (if j > i then j else i)) H
theorem call_max2R (hc : X.calm = true) : CallR X (.builtin "max") rMax2 := call_max2 hc
def rMin2 : List V → Hp → VK → Prop := fun xs H Q => ∃ i j, xs = [.int i, .int j] ∧ Q (.int (if j < i then j else i)) H
theorem call_min2R (hc : X.calm = true) : CallR X (.builtin "min") rMin2 := call_min2 hc
def rInt1 : List V → Hp → VK → Prop := fun xs H Q => (∃ i, xs = [.int i] ∧ Q (.int i) H) ∨ ∃ k, xs = [.bl k] ∧ Q (.int (if k then 1 else 0)) H
theorem call_int1R : CallR X (.type "int") rInt1 := call_int1
end
theorem dpa_bools {K : PySem.W.Frag} {H : Hp} : ∀ {ns : List Bool} {vs : List V}, DpAll K H vs (ns.map PyData.bool) → vs = ns.map V.bl
  | [], _, h => by cases h; rfl
  | n :: ns, _, h => by
    cases h with
    | cons h1 h2 => cases h1; rw [dpa_bools h2]; rfl
theorem all_d {K : PySem.W.Frag} {H0 H : Hp} {v : V} {bs : List Bool} {Q : VK} (e : Same H0 H) (h : Dp K H0 v (.list (bs.map PyData.bool))) (q : Q (.bl (bs.all id)) H) : rAll K [v] H Q := by
  obtain ⟨a, xs, rfl, hs, ha⟩ := list_at h
  have ex := dpa_bools ha
  subst ex
  exact ⟨a, bs, rfl, e.seq hs, q⟩
theorem any_d {K : PySem.W.Frag} {H0 H : Hp} {v : V} {bs : List Bool} {Q : VK} (e : Same H0 H) (h : Dp K H0 v (.list (bs.map PyData.bool))) (q : Q (.bl (bs.any id)) H) : rAny K [v] H Q := by
  obtain ⟨a, xs, rfl, hs, ha⟩ := list_at h
  have ex := dpa_bools ha
  subst ex
  exact ⟨a, bs, rfl, e.seq hs, q⟩
theorem max_d {K : PySem.W.Frag} {H0 H : Hp} {v : V} {ns : List Int} {Q : VK} (e : Same H0 H) (h : Dp K H0 v (.list (ns.map PyData.int))) (hn : 0 < ns.length) (q : ∀ m, m ∈ ns → (∀ y, y ∈ ns → y ≤ m) → Q (.int m) H) : rMax K [v] H Q := by
  obtain ⟨a, xs, rfl, hs, ha⟩ := list_at h
  have ex := dpa_ints ha
  subst ex
  exact ⟨a, ns, rfl, e.seq hs, hn, q⟩
theorem tup_d {K : PySem.W.Frag} {S : Addr → Prop} {H : Hp} {v : V} {d : PyData} {ds : List PyData} {Q : VK} (kn : Kn S H) (h : Dp K (off S H) v d) (hd : items d = some ds) (q : ∀ u H', Same H H' → Dp K (off S H') u (.tuple ds) → Q u H') : rTupOf K [v] H Q := by
  cases h with
  | non => cases hd
  | bl b => cases hd
  | int i => cases hd
  | str x => cases hd
  | lst hs ha =>
    cases hd
    exact ⟨_, _, rfl, .inl ⟨off_sub.seq hs, fun l hl => q _ _ (same_new hl) (.tup (sqT (by rw [off_out (kn.new hl)]; exact upd_same)) (dpa_same (off_same (same_new hl)) _ _ ha))⟩⟩
  | tup hs ha =>
    cases hd
    exact ⟨_, _, rfl, .inr ⟨same_t off_sub hs, q _ _ (Same.refl H) (.tup hs ha)⟩⟩
theorem list_d {K : PySem.W.Frag} {S : Addr → Prop} {H : Hp} {v : V} {d : PyData} {ds : List PyData} {Q : VK} (kn : Kn S H) (h : Dp K (off S H) v d) (hd : items d = some ds) (q : ∀ l xs, H l = none → DpAll K (off S H) xs ds → Dp K (off S (upd H l (.lst xs))) (.ref l) (.list ds) → Q (.ref l) (upd H l (.lst xs))) : rListOf K [v] H Q := by
  obtain ⟨a, xs, rfl, hs, ha⟩ := items_at h hd
  refine ⟨a, xs, rfl, hs.imp (fun z => off_sub.seq z) (fun z => same_t off_sub z), fun l hl => q l xs hl ha ?_⟩
  exact .lst (sqL (by rw [off_out (kn.new hl)]; exact upd_same)) (dpa_same (off_same (same_new hl)) _ _ ha)
end Kh

set_option maxRecDepth 100000
/-! trees: the mathematics -/
namespace Kh
open PySem
inductive T where
  | leaf (n : Nat)
  | gate (b : Bool) (k : Nat) (ps : List T)
theorem T.ind {P : T → Prop} (hl : ∀ n, P (.leaf n)) (hg : ∀ b k ps, (∀ p ∈ ps, P p) → P (.gate b k ps)) : ∀ t, P t := fun t =>
  T.rec (motive_1 := P) (motive_2 := fun ps => ∀ p ∈ ps, P p) hl (fun b k ps h => hg b k ps h) (fun p h => nomatch h) (fun t ts h1 h2 p hp => by
    rcases List.mem_cons.mp hp with rfl | hp
    · exact h1
    · exact h2 p hp) t
def sq (b : Bool) (ds : List PyData) : PyData := if b then .tuple ds else .list ds
theorem items_sq (b : Bool) (ds : List PyData) : items (sq b ds) = some ds := by cases b <;> rfl
mutual
def tD : T → PyData
  | .leaf n => .int (n : Nat)
  | .gate b k ps => .tuple [.str "of", .int (k : Nat), sq b (tDs ps)]
def tDs : List T → List PyData
  | [] => []
  | p :: ps => tD p :: tDs ps
end
mutual
def lv : T → List Nat
  | .leaf n => [n]
  | .gate _ _ ps => lvs ps
def lvs : List T → List Nat
  | [] => []
  | p :: ps => lv p ++ lvs ps
end
mutual
def dep : T → Nat
  | .leaf _ => 0
  | .gate _ _ ps => 1 + deps ps
def deps : List T → Nat
  | [] => 0
  | p :: ps => max (dep p) (deps ps)
end
mutual
def siz : T → Nat
  | .leaf _ => 1
  | .gate _ _ ps => 1 + sizs ps
def sizs : List T → Nat
  | [] => 0
  | p :: ps => siz p + sizs ps
end
mutual
/-- all parts told by tuples (true), by lists (false) -/
def flg (c : Bool) : T → T
  | .leaf n => .leaf n
  | .gate _ k ps => .gate c k (flgs c ps)
def flgs (c : Bool) : List T → List T
  | [] => []
  | p :: ps => flg c p :: flgs c ps
end
mutual
/-- the contrary, its parts lists -/
def con : T → T
  | .leaf n => .leaf n
  | .gate _ k ps => .gate false (ps.length + 1 - k) (cons_ ps)
def cons_ : List T → List T
  | [] => []
  | p :: ps => con p :: cons_ ps
end
mutual
def st (s : List Nat) : T → Bool
  | .leaf n => decide (n ∈ s)
  | .gate _ k ps => decide (k ≤ sts s ps)
def sts (s : List Nat) : List T → Nat
  | [] => 0
  | p :: ps => (if st s p then 1 else 0) + sts s ps
end
mutual
def Wf : T → Prop
  | .leaf n => n < 24
  | .gate _ k ps => 1 ≤ k ∧ k ≤ ps.length ∧ Wfs ps
def Wfs : List T → Prop
  | [] => True
  | p :: ps => Wf p ∧ Wfs ps
end
theorem tDs_map : ∀ ps : List T, tDs ps = ps.map tD
  | [] => by simp [tDs]
  | p :: ps => by simp [tDs, tDs_map ps]
theorem lvs_map : ∀ ps : List T, lvs ps = ps.flatMap lv
  | [] => by simp [lvs]
  | p :: ps => by simp [lvs, lvs_map ps]
theorem flgs_map (c : Bool) : ∀ ps : List T, flgs c ps = ps.map (flg c)
  | [] => by simp [flgs]
  | p :: ps => by simp [flgs, flgs_map c ps]
theorem cons_map : ∀ ps : List T, cons_ ps = ps.map con
  | [] => by simp [cons_]
  | p :: ps => by simp [cons_, cons_map ps]
theorem sts_filter (s : List Nat) : ∀ ps : List T, sts s ps = (ps.filter (st s)).length
  | [] => by simp [sts]
  | p :: ps => by
    rw [sts, sts_filter s ps, List.filter_cons]
    cases st s p <;> simp [Nat.add_comm]
theorem wfs_all : ∀ ps : List T, Wfs ps ↔ ∀ p ∈ ps, Wf p
  | [] => by simp [Wfs]
  | p :: ps => by simp [Wfs, wfs_all ps]
theorem deps_le {d : Nat} : ∀ ps : List T, deps ps ≤ d ↔ ∀ p ∈ ps, dep p ≤ d
  | [] => by simp [deps]
  | p :: ps => by simp [deps, deps_le ps, Nat.max_le]
theorem tD_gate (b : Bool) (k : Nat) (ps : List T) : tD (.gate b k ps) = .tuple [.str "of", .int (k : Nat), sq b (ps.map tD)] := by rw [tD, tDs_map]
theorem lv_gate (b : Bool) (k : Nat) (ps : List T) : lv (.gate b k ps) = ps.flatMap lv := by rw [lv, lvs_map]
theorem flg_gate (c b : Bool) (k : Nat) (ps : List T) : flg c (.gate b k ps) = .gate c k (ps.map (flg c)) := by rw [flg, flgs_map]
theorem con_gate (b : Bool) (k : Nat) (ps : List T) : con (.gate b k ps) = .gate false (ps.length + 1 - k) (ps.map con) := by rw [con, cons_map]
theorem st_gate (s : List Nat) (b : Bool) (k : Nat) (ps : List T) : st s (.gate b k ps) = decide (k ≤ (ps.filter (st s)).length) := by rw [st, sts_filter]
theorem wf_gate (b : Bool) (k : Nat) (ps : List T) : Wf (.gate b k ps) ↔ 1 ≤ k ∧ k ≤ ps.length ∧ ∀ p ∈ ps, Wf p := by rw [Wf, wfs_all]
theorem dep_gate {d : Nat} (b : Bool) (k : Nat) (ps : List T) : dep (.gate b k ps) ≤ d + 1 ↔ ∀ p ∈ ps, dep p ≤ d := by
  rw [dep, ← deps_le]; omega
theorem dep_gate0 (b : Bool) (k : Nat) (ps : List T) : ¬ dep (.gate b k ps) ≤ 0 := by rw [dep]; omega
theorem lv_leaf (n : Nat) : lv (.leaf n) = [n] := by rw [lv]
theorem tD_leaf (n : Nat) : tD (.leaf n) = .int (n : Nat) := by rw [tD]
theorem flg_leaf (c : Bool) (n : Nat) : flg c (.leaf n) = .leaf n := by rw [flg]
theorem con_leaf (n : Nat) : con (.leaf n) = .leaf n := by rw [con]
theorem st_leaf (s : List Nat) (n : Nat) : st s (.leaf n) = decide (n ∈ s) := by rw [st]
end Kh

set_option maxRecDepth 100000
/-! kinds of data, by the kernel -/
namespace Kh
open PySem PySem.Spec PyProof.Rows L2
def kInt : PyData → Bool | .int _ => true | .bool _ => true | _ => false
def kBool : PyData → Bool | .bool _ => true | _ => false
def kStr : PyData → Bool | .str _ => true | _ => false
def kTup : PyData → Bool | .tuple _ => true | _ => false
def kList : PyData → Bool | .list _ => true | _ => false
theorem kit_int : ∀ d : PyData, kitB (tyN d) "int" = some (kInt d)
  | .none => (by decide +kernel : kitB "NoneType" "int" = some false)
  | .bool _ => (by decide +kernel : kitB "bool" "int" = some true)
  | .int _ => (by decide +kernel : kitB "int" "int" = some true)
  | .str _ => (by decide +kernel : kitB "str" "int" = some false)
  | .list _ => (by decide +kernel : kitB "list" "int" = some false)
  | .tuple _ => (by decide +kernel : kitB "tuple" "int" = some false)
  | .dict _ => (by decide +kernel : kitB "dict" "int" = some false)
theorem kit_bool : ∀ d : PyData, kitB (tyN d) "bool" = some (kBool d)
  | .none => (by decide +kernel : kitB "NoneType" "bool" = some false)
  | .bool _ => (by decide +kernel : kitB "bool" "bool" = some true)
  | .int _ => (by decide +kernel : kitB "int" "bool" = some false)
  | .str _ => (by decide +kernel : kitB "str" "bool" = some false)
  | .list _ => (by decide +kernel : kitB "list" "bool" = some false)
  | .tuple _ => (by decide +kernel : kitB "tuple" "bool" = some false)
  | .dict _ => (by decide +kernel : kitB "dict" "bool" = some false)
theorem kit_str : ∀ d : PyData, kitB (tyN d) "str" = some (kStr d)
  | .none => (by decide +kernel : kitB "NoneType" "str" = some false)
  | .bool _ => (by decide +kernel : kitB "bool" "str" = some false)
  | .int _ => (by decide +kernel : kitB "int" "str" = some false)
  | .str _ => (by decide +kernel : kitB "str" "str" = some true)
  | .list _ => (by decide +kernel : kitB "list" "str" = some false)
  | .tuple _ => (by decide +kernel : kitB "tuple" "str" = some false)
  | .dict _ => (by decide +kernel : kitB "dict" "str" = some false)
theorem kit_tup : ∀ d : PyData, kitB (tyN d) "tuple" = some (kTup d)
  | .none => (by decide +kernel : kitB "NoneType" "tuple" = some false)
  | .bool _ => (by decide +kernel : kitB "bool" "tuple" = some false)
  | .int _ => (by decide +kernel : kitB "int" "tuple" = some false)
  | .str _ => (by decide +kernel : kitB "str" "tuple" = some false)
  | .list _ => (by decide +kernel : kitB "list" "tuple" = some false)
  | .tuple _ => (by decide +kernel : kitB "tuple" "tuple" = some true)
  | .dict _ => (by decide +kernel : kitB "dict" "tuple" = some false)
theorem kit_list : ∀ d : PyData, kitB (tyN d) "list" = some (kList d)
  | .none => (by decide +kernel : kitB "NoneType" "list" = some false)
  | .bool _ => (by decide +kernel : kitB "bool" "list" = some false)
  | .int _ => (by decide +kernel : kitB "int" "list" = some false)
  | .str _ => (by decide +kernel : kitB "str" "list" = some false)
  | .list _ => (by decide +kernel : kitB "list" "list" = some true)
  | .tuple _ => (by decide +kernel : kitB "tuple" "list" = some false)
  | .dict _ => (by decide +kernel : kitB "dict" "list" = some false)
def isIntD : PyData → Bool | .int _ => true | _ => false
def isCountD : PyData → Bool | .int i => decide (0 ≤ i) | _ => false
def isListD (d : PyData) : Bool := kList d || kTup d
def belowD (m : Int) : PyData → Bool | .int i => decide (0 ≤ i) && decide (i < m) | _ => false
end Kh

set_option maxRecDepth 100000
/-! readings, piece by piece -/
namespace Kh
open PySem PySem.Spec PyProof.Rows L2
section
variable {σ : L2.St} {H : Hp} {Q : VK} {D : Ends} {te ta tb tc : TE} {tt tu : TT} {ts tv : TS} {r r' : R2} {c1 : List V → Hp → VK → Prop} {sp : Sp} {E : XK} {v : V} {i : Nat} {K : PySem.W.Frag}
theorem t_var (h : σ[i]? = some (some v)) (q : Q v H) : tVar i σ H Q := ⟨v, h, q⟩
theorem t_c (q : Q v H) : tC v σ H Q := q
theorem t_op (h : ta σ H fun x H1 => tb σ H1 fun y H2 => r x y H2 Q) : tOp r ta tb σ H Q := h
theorem t_un {u1 : V → Hp → VK → Prop} (h : ta σ H fun x H1 => u1 x H1 Q) : tUn u1 ta σ H Q := h
theorem t_cb1 (h : ta σ H fun x H1 => c1 [x] H1 Q) : tCB c1 (tCons ta tNil) σ H Q := h
theorem t_cb2 (h : ta σ H fun x H1 => tb σ H1 fun y H2 => c1 [x, y] H2 Q) : tCB c1 (tCons ta (tCons tb tNil)) σ H Q := h
theorem t_call1 (h : ta σ H fun x H1 => sp [x] H1 Q E) : tCall sp [] E (tCons ta tNil) σ H Q := h
theorem t_call2 (h : ta σ H fun x H1 => tb σ H1 fun y H2 => sp [x, y] H2 Q E) : tCall sp [] E (tCons ta (tCons tb tNil)) σ H Q := h
theorem t_call3 (h : ta σ H fun x H1 => tb σ H1 fun y H2 => tc σ H2 fun z H3 => sp [x, y, z] H3 Q E) : tCall sp [] E (tCons ta (tCons tb (tCons tc tNil))) σ H Q := h
theorem t_notV (h : ta σ H fun x H1 => ∃ c, x = .bl c ∧ Q (.bl (!c)) H1) : tNotV ta σ H Q := h
theorem t_andV (h : ta σ H fun x H1 => ∃ c, x = .bl c ∧ if c = true then tb σ H1 Q else Q (.bl false) H1) : tAndV ta tb σ H Q := h
theorem t_orV (h : ta σ H fun x H1 => ∃ c, x = .bl c ∧ if c = true then Q (.bl true) H1 else tb σ H1 Q) : tOrV ta tb σ H Q := h
theorem t_if (h : tt σ H fun c H1 => if c = true then ta σ H1 Q else tb σ H1 Q) : tIf tt ta tb σ H Q := h
theorem t_lst0 (h : ∀ p, H p = none → Q (.ref p) (upd H p (.lst []))) : tLst tNil σ H Q := ⟨Nat.zero_le _, h⟩
theorem t_lst1 (h : ta σ H fun x H1 => ∀ p, H1 p = none → Q (.ref p) (upd H1 p (.lst [x]))) (m : ∀ Q Q' : VK, (∀ v H, Q v H → Q' v H) → ta σ H Q → ta σ H Q') : tLst (tCons ta tNil) σ H Q := m _ _ (fun x _ h => ⟨show [x].length ≤ sizeLine from Nat.le_trans (show 1 ≤ 1000 by decide) (by decide), h⟩) h
theorem t_tup {t : TA} (h : t σ H fun xs H1 => xs.length ≤ sizeLine ∧ ∀ p, H1 p = none → Q (.ref p) (upd H1 p (.tup xs))) : tTup t σ H Q := h
theorem t_lst {t : TA} (h : t σ H fun xs H1 => xs.length ≤ sizeLine ∧ ∀ p, H1 p = none → Q (.ref p) (upd H1 p (.lst xs))) : tLst t σ H Q := h
theorem a_cons {t : TA} {q : List V → Hp → Prop} (h : te σ H fun x H1 => t σ H1 fun xs H2 => q (x :: xs) H2) : tCons te t σ H q := h
theorem a_nil {q : List V → Hp → Prop} (h : q [] H) : tNil σ H q := h
theorem t_bm {K : PySem.W.Frag} {T : String} {r3 : V → List V → Hp → VK → Prop} {t : TA} (h : te σ H fun x H1 => tyV K T x H1 ∧ t σ H1 fun xs H2 => r3 x xs H2 Q) : tBM K T r3 te t σ H Q := h
theorem t_bm0 {K : PySem.W.Frag} {T : String} {r3 : V → List V → Hp → VK → Prop} (h : te σ H fun x H1 => tyV K T x H1 ∧ r3 x [] H1 Q) : tBM0 K T r3 te σ H Q := h
theorem t_call {t : TA} (h : t σ H fun vs H1 => sp vs H1 Q E) : tCall sp [] E t σ H Q := by
  have e : (fun (vs : List V) (H1 : Hp) => sp (vs ++ []) H1 Q E) = fun vs H1 => sp vs H1 Q E := by funext vs H1; rw [List.append_nil]
  show t σ H fun vs H1 => sp (vs ++ []) H1 Q E
  rw [e]; exact h
theorem t_cb {t : TA} (h : t σ H fun vs H1 => c1 vs H1 Q) : tCB c1 t σ H Q := h
theorem b_test {q : Bool → Hp → Prop} (h : te σ H fun x H1 => ∃ k, x = .bl k ∧ q k H1) : tTest te σ H q := h
theorem b_val {q : Bool → Hp → Prop} (h : te σ H fun x H1 => ∃ k, x = .bl k ∧ q k H1) : tB te σ H q := h
theorem b_not {q : Bool → Hp → Prop} (h : tt σ H fun b H1 => q (!b) H1) : tNot tt σ H q := h
theorem b_and {q : Bool → Hp → Prop} (h : tt σ H fun c H1 => if c = true then tu σ H1 q else q false H1) : tAnd tt tu σ H q := h
theorem b_or {q : Bool → Hp → Prop} (h : tt σ H fun c H1 => if c = true then q true H1 else tu σ H1 q) : tOr tt tu σ H q := h
theorem s_ret (h : te σ H D.rt) : tRet te D σ H := h
theorem s_if (h : tt σ H fun b H1 => if b = true then ts D σ H1 else tv D σ H1) : tIfS tt ts tv D σ H := h
theorem s_seq (h : ts { D with nx := tv D } σ H) : tSeq ts tv D σ H := h
theorem s_set (h : te σ H fun x H1 => D.nx (σ.set i (some x)) H1) : tAsg te (gName i) D σ H := h
theorem s_next {f : L2.St → Hp → Prop} {r : VK} {b c : L2.St → Hp → Prop} (h : f σ H) : tNext { nx := f, rt := r, bk := b, ct := c } σ H := h
theorem nx_of {f : L2.St → Hp → Prop} {r : VK} {b c : L2.St → Hp → Prop} (h : f σ H) : Ends.nx { nx := f, rt := r, bk := b, ct := c } σ H := h
theorem s_drop (h : te σ H fun _ H1 => D.nx σ H1) : tDrop te D σ H := h
end
/-- a bool, then by cases -/
theorem bl_if {b : Bool} {A B : Prop} (h1 : b = true → A) (h2 : b = false → B) : ∃ c, V.bl b = V.bl c ∧ if c = true then A else B :=
  ⟨b, rfl, by cases b with
    | true => exact iteT (h1 rfl)
    | false => exact iteF (h2 rfl)⟩
theorem bl_ifT {A B : Prop} (h1 : A) : ∃ c, V.bl true = V.bl c ∧ if c = true then A else B := bl_if (fun _ => h1) fun z => nomatch z
theorem bl_ifF {A B : Prop} (h1 : B) : ∃ c, V.bl false = V.bl c ∧ if c = true then A else B := bl_if (fun z => nomatch z) fun _ => h1
theorem if_b {b : Bool} {A B : Prop} (h1 : b = true → A) (h2 : b = false → B) : if b = true then A else B := by
  cases b with
  | true => exact iteT (h1 rfl)
  | false => exact iteF (h2 rfl)
theorem ii {i j : Int} {C : Int → Int → Prop} (h : C i j) : ∃ k l, V.int i = V.int k ∧ V.int j = V.int l ∧ C k l := ⟨i, j, rfl, rfl, h⟩
end Kh

set_option maxRecDepth 100000
set_option maxHeartbeats 1000000
/-! comprehensions over data -/
namespace Kh
open PySem PySem.Spec PyProof.Rows L2
theorem le1 : 1 ≤ sizeLine := by decide
theorem le2 : 2 ≤ sizeLine := by decide
theorem le3 : 3 ≤ sizeLine := by decide
theorem le4 : 4 ≤ sizeLine := by decide
theorem le5 : 5 ≤ sizeLine := by decide
theorem ifT {b : Bool} {A B : Prop} (e : b = true) (h : A) : if b = true then A else B := by rw [e]; exact iteT h
theorem ifF {b : Bool} {A B : Prop} (e : b = false) (h : B) : if b = true then A else B := by rw [e]; exact iteF h
/-- a new object keeps the rest of what is told -/
theorem off_plus {S : Addr → Prop} {H1 H : Hp} {D : Addr} (hD : H1 D = none) (s : Same H1 H) : Same (off S H1) (off (plus S D) H) := fun b o h => by
  obtain ⟨n, h⟩ := off_some h
  rw [off_out]
  · exact s b o h
  · rintro (z | rfl)
    · exact n z
    · rw [hD] at h; cases h
theorem off_fin {S : Addr → Prop} {H : Hp} {D : Addr} : Same (off (plus S D) H) (off S H) := off_less fun _ h => .inl h
/-- a new list or tuple of data -/
theorem dp_lst {K : PySem.W.Frag} {S : Addr → Prop} {H : Hp} {D : Addr} {ys : List V} {ds : List PyData} (n : ¬ S D) (h : H D = some (.lst ys)) (a : DpAll K (off S H) ys ds) : Dp K (off S H) (.ref D) (.list ds) :=
  .lst (sqL (by rw [off_out n]; exact h)) a
theorem dp_tup {K : PySem.W.Frag} {S : Addr → Prop} {H : Hp} {D : Addr} {ys : List V} {ds : List PyData} (n : ¬ S D) (h : H D = some (.tup ys)) (a : DpAll K (off S H) ys ds) : Dp K (off S H) (.ref D) (.tuple ds) :=
  .tup (sqT (by rw [off_out n]; exact h)) a
theorem dp_newT {K : PySem.W.Frag} {S : Addr → Prop} {H : Hp} {D : Addr} {ys : List V} {ds : List PyData} (kn : Kn S H) (h : H D = none) (a : DpAll K (off S H) ys ds) : Dp K (off S (upd H D (.tup ys))) (.ref D) (.tuple ds) :=
  dp_tup (kn.new h) upd_same (dpa_same (off_same (same_new h)) _ _ a)
theorem dp_newL {K : PySem.W.Frag} {S : Addr → Prop} {H : Hp} {D : Addr} {ys : List V} {ds : List PyData} (kn : Kn S H) (h : H D = none) (a : DpAll K (off S H) ys ds) : Dp K (off S (upd H D (.lst ys))) (.ref D) (.list ds) :=
  dp_lst (kn.new h) upd_same (dpa_same (off_same (same_new h)) _ _ a)
theorem dp_bl {K : PySem.W.Frag} {H : Hp} {b c : Bool} (e : b = c) : Dp K H (.bl b) (.bool c) := by subst e; exact .bl b
theorem dp_int {K : PySem.W.Frag} {H : Hp} {b c : Int} (e : b = c) : Dp K H (.int b) (.int c) := by subst e; exact .int b
/-- what is walked: a list or a tuple of data -/
theorem it_any {K : PySem.W.Frag} {S : Addr → Prop} {H : Hp} {σ : L2.St} {t : TE} {R : It → Hp → Prop} {b : Bool} {ds : List PyData}
    (hev : ∀ Q : VK, (∀ u H1, Same H H1 → Dp K (off S H1) u (sq b ds) → Q u H1) → t σ H Q)
    (k : ∀ J xs H1, Same H H1 → DpAll K (off S H1) xs ds → Walk J xs.length (fun H' => Same (off S H1) H') (YAt xs) → R J H1) : iList K t σ H R ∨ iTup K t σ H R := by
  cases b with
  | false =>
    refine .inl (hev _ fun u H1 s du => ?_)
    obtain ⟨a, xs, rfl, hs, ha⟩ := list_at du
    exact ⟨a, rfl, ⟨xs, off_sub.seq hs⟩, k _ xs H1 s ha (walk_list.mono (fun H' z => z.seq hs) fun _ _ _ _ _ _ y => y)⟩
  | true =>
    refine .inr (hev _ fun u H1 s du => ?_)
    obtain ⟨a, xs, rfl, hs, ha⟩ := tup_at du
    exact ⟨a, rfl, ⟨xs, same_t off_sub hs⟩, k _ xs H1 s ha (walk_tup.mono (fun H' z => same_t z hs) fun _ _ _ _ _ _ y => y)⟩
theorem range_map {α β : Type} {l : List α} {f : Nat → β} {g : α → β} (h : ∀ i x, l[i]? = some x → f i = g x) : (List.range l.length).map f = l.map g := by
  apply List.ext_getElem?
  intro i
  by_cases q : i < l.length
  · rw [List.getElem?_map, List.getElem?_map, List.getElem?_range q, List.getElem?_eq_getElem q]
    simp [h i _ (List.getElem?_eq_getElem q)]
  · rw [List.getElem?_eq_none_iff.mpr (by simp; omega), List.getElem?_eq_none_iff.mpr (by simp; omega)]
/-- [e for x in xs], e data of the item -/
theorem lc_dat {K : PySem.W.Frag} {S : Addr → Prop} {H1 : Hp} {σ : L2.St} {te : TE} {sl : Nat} {vs : List Nat} {Qd : VK} {J : It} {xs : List V} {ds : List PyData} (f : Nat → PyData)
    (w : Walk J xs.length (fun H' => Same (off S H1) H') (YAt xs)) (ha : DpAll K (off S H1) xs ds) (kn : Kn S H1) (hn : ds.length ≤ 100000) (hw : ∀ x, wipe ((wipe σ vs).set sl (some x)) vs = wipe σ vs)
    (body : ∀ j x d H S', ds[j]? = some d → Same H1 H → Kn S' H → Dp K (off S' H) x d → (∀ a, S a → S' a) → Same (off S H1) (off S' H) → ∀ Q : VK, (∀ y H', Same H H' → Dp K (off S' H') y (f j) → Q y H') → te ((wipe σ vs).set sl (some x)) H Q)
    (done : ∀ D H ys, H1 D = none → Same H1 H → H D = some (.lst ys) → Dp K (off S H) (.ref D) (.list ((List.range ds.length).map f)) → Qd (.ref D) H) :
    ∀ D, H1 D = none → ∃ W : Nat → Nat → Hp → Prop, (∃ m, W 0 m (upd H1 D (.lst []))) ∧ ∀ i m H, W i m H →
      (J.stop i H ∧ Qd (.ref D) H) ∨ (J.go i H ∧ ∃ Nx : Hp → Prop, (∀ H', Nx H' → ∃ m', m' < m ∧ W (i + 1) m' H') ∧ ∀ x H', J.yld i H x H' → gName sl x (wipe σ vs) H' fun σ2 H2 => wipe σ2 vs = wipe σ vs ∧ tYes σ2 H2 fun b H3 =>
        if b = true then te σ2 H3 fun y H4 => ∃ acc, H4 D = some (.lst acc) ∧ acc.length < sizeLine ∧ Nx (upd H4 D (.lst (acc ++ [y]))) else Nx H3) := by
  intro D hD
  have ln := dpa_len ha
  refine lc_map (Qd := Qd (.ref D)) w (fun j x => xs[j]? = some x) (fun i H x H' _ y => y) (fun j y H => Dp K (off (plus S D) H) y (f j)) (fun H s => off_sub.trans s) hD (by omega) hw (fun j y H H' e h => dp_same (off_but e) _ _ h) (fun j x H hj xj s hd Q q => ?_) (fun ys H hl py s hd => ?_)
  · obtain ⟨d, dj, dx⟩ := dpa_at ha xj
    exact body j x d H (plus S D) dj s ((kn.same s).plus hd) (dp_same (off_plus hD s) _ _ dx) (fun _ h => .inl h) (off_plus hD s) Q q
  · refine done D H ys hD s hd (dp_lst (kn.new hD) hd ?_)
    refine dpa_same (off_fin (D := D)) _ _ (dpa_of (by simp [hl, ln]) fun i v d h1 h2 => ?_)
    have hi : i < ds.length := by
      have := (List.getElem?_eq_some_iff.mp h1).1
      omega
    rw [List.getElem?_map, List.getElem?_range hi] at h2
    cases h2
    exact py i v h1
/-- [e for x in xs if t], t known item by item -/
theorem lc_datF {K : PySem.W.Frag} {S : Addr → Prop} {H1 : Hp} {σ : L2.St} {te : TE} {tt : TT} {sl : Nat} {vs : List Nat} {Qd : VK} {J : It} {xs : List V} {ds : List PyData} (pt : Nat → Bool) (f : Nat → PyData)
    (w : Walk J xs.length (fun H' => Same (off S H1) H') (YAt xs)) (ha : DpAll K (off S H1) xs ds) (kn : Kn S H1) (hn : ds.length ≤ 100000) (hw : ∀ x, wipe ((wipe σ vs).set sl (some x)) vs = wipe σ vs)
    (test : ∀ j x d H S', ds[j]? = some d → Same H1 H → Kn S' H → Dp K (off S' H) x d → (∀ a, S a → S' a) → Same (off S H1) (off S' H) → ∀ Q : Bool → Hp → Prop, (∀ H', Same H H' → Q (pt j) H') → tt ((wipe σ vs).set sl (some x)) H Q)
    (body : ∀ j x d H S', ds[j]? = some d → pt j = true → Same H1 H → Kn S' H → Dp K (off S' H) x d → (∀ a, S a → S' a) → Same (off S H1) (off S' H) → ∀ Q : VK, (∀ y H', Same H H' → Dp K (off S' H') y (f j) → Q y H') → te ((wipe σ vs).set sl (some x)) H Q)
    (done : ∀ D H ys, H1 D = none → Same H1 H → H D = some (.lst ys) → Dp K (off S H) (.ref D) (.list (((List.range ds.length).filter pt).map f)) → Qd (.ref D) H) :
    ∀ D, H1 D = none → ∃ W : Nat → Nat → Hp → Prop, (∃ m, W 0 m (upd H1 D (.lst []))) ∧ ∀ i m H, W i m H →
      (J.stop i H ∧ Qd (.ref D) H) ∨ (J.go i H ∧ ∃ Nx : Hp → Prop, (∀ H', Nx H' → ∃ m', m' < m ∧ W (i + 1) m' H') ∧ ∀ x H', J.yld i H x H' → gName sl x (wipe σ vs) H' fun σ2 H2 => wipe σ2 vs = wipe σ vs ∧ tt σ2 H2 fun b H3 =>
        if b = true then te σ2 H3 fun y H4 => ∃ acc, H4 D = some (.lst acc) ∧ acc.length < sizeLine ∧ Nx (upd H4 D (.lst (acc ++ [y]))) else Nx H3) := by
  intro D hD
  have ln := dpa_len ha
  refine lc_filt (Qd := Qd (.ref D)) w (fun j x => xs[j]? = some x) (fun i H x H' _ y => y) pt (fun j y H => Dp K (off (plus S D) H) y (f j)) (fun H s => off_sub.trans s) hD (by omega) hw (fun j y H H' e h => dp_same (off_but e) _ _ h) (fun j x H hj xj s hd Q q => ?_) (fun j x H hj xj pj s hd Q q => ?_) (fun ys H py s hd => ?_)
  · obtain ⟨d, dj, dx⟩ := dpa_at ha xj
    exact test j x d H (plus S D) dj s ((kn.same s).plus hd) (dp_same (off_plus hD s) _ _ dx) (fun _ h => .inl h) (off_plus hD s) Q q
  · obtain ⟨d, dj, dx⟩ := dpa_at ha xj
    exact body j x d H (plus S D) dj pj s ((kn.same s).plus hd) (dp_same (off_plus hD s) _ _ dx) (fun _ h => .inl h) (off_plus hD s) Q q
  · refine done D H ys hD s hd (dp_lst (kn.new hD) hd ?_)
    rw [ln] at py
    refine dpa_same (off_fin (D := D)) _ _ ?_
    have go : ∀ {l : List Nat} {ys : List V}, Paired (fun j y => Dp K (off (plus S D) H) y (f j)) l ys → DpAll K (off (plus S D) H) ys (l.map f) := by
      intro l ys p
      induction p with
      | nil => exact .nil
      | cons r t ih => exact .cons r ih
    exact go py
theorem lc_seqF {K : PySem.W.Frag} {S : Addr → Prop} {H : Hp} {σ : L2.St} {t te : TE} {tt : TT} {sl : Nat} {vs : List Nat} {Q : VK} {b : Bool} {ds : List PyData} (pt : Nat → Bool) (f : Nat → PyData) (kn : Kn S H)
    (hev : ∀ Q : VK, (∀ u H1, Same H H1 → Dp K (off S H1) u (sq b ds) → Q u H1) → t σ H Q) (hn : ds.length ≤ 100000) (hw : ∀ x, wipe ((wipe σ vs).set sl (some x)) vs = wipe σ vs)
    (test : ∀ j x d H1 S', ds[j]? = some d → Same H H1 → Kn S' H1 → Dp K (off S' H1) x d → (∀ a, S a → S' a) → Same (off S H) (off S' H1) → ∀ Q : Bool → Hp → Prop, (∀ H', Same H1 H' → Q (pt j) H') → tt ((wipe σ vs).set sl (some x)) H1 Q)
    (body : ∀ j x d H1 S', ds[j]? = some d → pt j = true → Same H H1 → Kn S' H1 → Dp K (off S' H1) x d → (∀ a, S a → S' a) → Same (off S H) (off S' H1) → ∀ Q : VK, (∀ y H', Same H1 H' → Dp K (off S' H') y (f j) → Q y H') → te ((wipe σ vs).set sl (some x)) H1 Q)
    (done : ∀ D H1 ys, H D = none → Same H H1 → H1 D = some (.lst ys) → Dp K (off S H1) (.ref D) (.list (((List.range ds.length).filter pt).map f)) → Q (.ref D) H1) :
    tLc (fun σ H R => iList K t σ H R ∨ iTup K t σ H R) (gName sl) tt te vs σ H Q :=
  it_any hev fun J xs H1 s ha w => lc_datF pt f w ha (kn.same s) hn hw (fun j x d H2 S' dj s2 kn2 dx hS hoff Q q => test j x d H2 S' dj (s.trans s2) kn2 dx hS ((off_same s).trans hoff) Q q)
    (fun j x d H2 S' dj pj s2 kn2 dx hS hoff Q q => body j x d H2 S' dj pj (s.trans s2) kn2 dx hS ((off_same s).trans hoff) Q q)
    fun D H2 ys hD s2 hd h => done D H2 ys (s.free hD) (s.trans s2) hd h
theorem range_filter {α β : Type} {l : List α} {pt : Nat → Bool} {p : α → Bool} {f : Nat → β} {g : α → β} (h : ∀ i x, l[i]? = some x → pt i = p x ∧ f i = g x) : ((List.range l.length).filter pt).map f = (l.filter p).map g := by
  have go : ∀ n, n ≤ l.length → ((List.range n).filter pt).map f = ((l.take n).filter p).map g := by
    intro n
    induction n with
    | zero => intro _; simp
    | succ n ih =>
      intro hn
      have e : l[n]? = some l[n] := List.getElem?_eq_getElem (by omega)
      obtain ⟨h1, h2⟩ := h n _ e
      rw [List.range_succ, List.take_add_one, e, List.filter_append, List.filter_append, List.map_append, List.map_append, ih (by omega)]
      congr 1
      cases q : p l[n] with
      | true => rw [q] at h1; simp [h1, h2, q]
      | false => rw [q] at h1; simp [h1, q]
  have := go l.length (Nat.le_refl _)
  rwa [List.take_length] at this
/-- .. that is walked as it stands -/
theorem lc_seq {K : PySem.W.Frag} {S : Addr → Prop} {H : Hp} {σ : L2.St} {t te : TE} {sl : Nat} {vs : List Nat} {Q : VK} {b : Bool} {ds : List PyData} (f : Nat → PyData) (kn : Kn S H)
    (hev : ∀ Q : VK, (∀ u H1, Same H H1 → Dp K (off S H1) u (sq b ds) → Q u H1) → t σ H Q) (hn : ds.length ≤ 100000) (hw : ∀ x, wipe ((wipe σ vs).set sl (some x)) vs = wipe σ vs)
    (body : ∀ j x d H1 S', ds[j]? = some d → Same H H1 → Kn S' H1 → Dp K (off S' H1) x d → (∀ a, S a → S' a) → Same (off S H) (off S' H1) → ∀ Q : VK, (∀ y H', Same H1 H' → Dp K (off S' H') y (f j) → Q y H') → te ((wipe σ vs).set sl (some x)) H1 Q)
    (done : ∀ D H1 ys, H D = none → Same H H1 → H1 D = some (.lst ys) → Dp K (off S H1) (.ref D) (.list ((List.range ds.length).map f)) → Q (.ref D) H1) :
    tLc (fun σ H R => iList K t σ H R ∨ iTup K t σ H R) (gName sl) tYes te vs σ H Q :=
  it_any hev fun J xs H1 s ha w => lc_dat f w ha (kn.same s) hn hw (fun j x d H2 S' dj s2 kn2 dx hS hoff Q q => body j x d H2 S' dj (s.trans s2) kn2 dx hS ((off_same s).trans hoff) Q q)
    fun D H2 ys hD s2 hd h => done D H2 ys (s.free hD) (s.trans s2) hd h

theorem t_yes {σ : L2.St} {H : Hp} {A B : Hp → Prop} (h : A H) : tYes σ H fun b H' => if b = true then A H' else B H' := iteT (A := A H) (B := B H) h
/-- any walk, a step a turn -/
theorem wlk {J : It} {n : Nat} {G : Hp → Prop} {Y : Nat → Hp → V → Hp → Prop} (w : Walk J n G Y) {H0 : Hp} {Dn : Hp → Prop} (Stp : V → Hp → (Hp → Prop) → Prop) (Pv : Nat → Hp → Prop) (h0 : Pv 0 H0) (hG : ∀ i H, i ≤ n → Pv i H → G H)
    (hs : ∀ i x H H', i < n → Pv i H → Y i H x H' → Stp x H' (Pv (i + 1))) (hd : ∀ H, Pv n H → Dn H) :
    ∃ W : Nat → Nat → Hp → Prop, (∃ m, W 0 m H0) ∧ ∀ i m H, W i m H →
      (J.stop i H ∧ Dn H) ∨ (J.go i H ∧ ∃ Nx : Hp → Prop, (∀ H', Nx H' → ∃ m', m' < m ∧ W (i + 1) m' H') ∧ ∀ x H', J.yld i H x H' → Stp x H' Nx) := by
  refine ⟨fun i m H => m = n - i ∧ i ≤ n ∧ Pv i H, ⟨n, by simp, Nat.zero_le _, h0⟩, ?_⟩
  rintro i m H ⟨rfl, hi, p⟩
  by_cases q : i < n
  · exact .inr ⟨w.goes i H q (hG i H hi p), Pv (i + 1), fun H' p' => ⟨n - (i + 1), by omega, rfl, q, p'⟩, fun x H' y => hs i x H H' q p (w.yields i H x H' q (hG i H hi p) y)⟩
  · have e : i = n := by omega
    subst e
    exact .inl ⟨w.stops H (hG _ H hi p), hd H p⟩
theorem flat_take {f : Nat → List PyData} (n : Nat) : (List.range (n + 1)).flatMap f = (List.range n).flatMap f ++ f n := by
  rw [List.range_succ, List.flatMap_append]; simp
/-- [y for x in xs for y in e], e a list of data -/
theorem lc2_seq {K : PySem.W.Frag} {S : Addr → Prop} {H : Hp} {σ : L2.St} {t t2 : TE} {s1 s2 : Nat} {vs vs1 : List Nat} {Q : VK} {b : Bool} {ds : List PyData} (f : Nat → List PyData) (kn : Kn S H)
    (hev : ∀ Q : VK, (∀ u H1, Same H H1 → Dp K (off S H1) u (sq b ds) → Q u H1) → t σ H Q) (hn : ∀ n, n ≤ ds.length → ((List.range n).flatMap f).length ≤ 100000) (hw : ∀ x, wipe ((wipe σ vs).set s1 (some x)) vs = wipe σ vs)
    (hw1 : ∀ x y, wipe ((wipe ((wipe σ vs).set s1 (some x)) vs1).set s2 (some y)) vs1 = wipe ((wipe σ vs).set s1 (some x)) vs1) (hg : ∀ x y, ((wipe ((wipe σ vs).set s1 (some x)) vs1).set s2 (some y))[s2]? = some (some y))
    (body : ∀ j x d H1 S', ds[j]? = some d → Same H H1 → Kn S' H1 → Dp K (off S' H1) x d → (∀ a, S a → S' a) → ∀ Q : VK, (∀ y H', Same H1 H' → Dp K (off S' H') y (.list (f j)) → Q y H') → t2 ((wipe σ vs).set s1 (some x)) H1 Q)
    (done : ∀ D H1 ys, H D = none → Same H H1 → H1 D = some (.lst ys) → Dp K (off S H1) (.ref D) (.list ((List.range ds.length).flatMap f)) → Q (.ref D) H1) :
    tLc2 (fun σ H R => iList K t σ H R ∨ iTup K t σ H R) (gName s1) tYes (fun σ H R => iList K t2 σ H R ∨ iTup K t2 σ H R) (gName s2) tYes (tVar s2) vs vs1 σ H Q := by
  refine it_any hev fun J xs H1 s ha w D hD => ?_
  have ln := dpa_len ha
  have kn1 := kn.same s
  refine wlk w (fun x H' Nx => gName s1 x (wipe σ vs) H' _) (fun i H' => ∃ ys, DpAll K (off (plus S D) H') ys ((List.range i).flatMap f) ∧ Same H1 H' ∧ H' D = some (.lst ys)) ⟨[], .nil, same_new hD, upd_same⟩ (fun i H' _ ⟨_, _, z, _⟩ => off_sub.trans z) ?_ ?_
  · rintro i x H2 H3 hi ⟨ys, py, z, hd⟩ ⟨rfl, xi⟩
    obtain ⟨d, dj, dx⟩ := dpa_at ha xi
    refine ⟨hw x, t_yes ?_⟩
    refine it_any (b := false) (S := plus S D) (ds := f i) (fun Q q => body i x d H3 (plus S D) dj (s.trans z) ((kn1.same z).plus (some_ne hd)) (dp_same (off_plus hD z) _ _ dx) (fun _ h => .inl h) Q q) fun J1 zs H4 s4 hz w1 => ?_
    have lz := dpa_len hz
    refine wlk w1 (fun y H' Nx => gName s2 y (wipe ((wipe σ vs).set s1 (some x)) vs1) H' fun σ3 H5 => wipe σ3 vs1 = wipe ((wipe σ vs).set s1 (some x)) vs1 ∧ tYes σ3 H5 fun b H6 => if b = true then tVar s2 σ3 H6 fun y H7 => ∃ acc, H7 D = some (.lst acc) ∧ acc.length < sizeLine ∧ Nx (upd H7 D (.lst (acc ++ [y]))) else Nx H6) (fun j H' => ∃ ys', DpAll K (off (plus S D) H') ys' ((List.range i).flatMap f ++ (f i).take j) ∧ SameBut D H4 H' ∧ H' D = some (.lst ys')) ⟨ys, by simpa using dpa_same (off_same s4) _ _ py, sbut (Same.refl _), s4 _ _ hd⟩ (fun j H' _ ⟨_, _, z', _⟩ => fun c o h => z' c o (fun e => (off_some h).1 (.inr e)) (off_some h).2) ?_ fun H5 h5 => ?_
    · rintro j y H5 H6 hj ⟨ys', py', z', hd'⟩ ⟨rfl, yj⟩
      obtain ⟨e, ej, de⟩ := dpa_at hz yj
      refine ⟨hw1 x y, t_yes ?_⟩
      have hl : ys'.length ≤ 100000 := by
        have h1 := dpa_len py'
        have h2 := hn (i + 1) (by omega)
        rw [flat_take, List.length_append] at h2
        rw [h1, List.length_append, List.length_take]
        omega
      refine ⟨y, hg x y, ys', hd', Nat.lt_of_le_of_lt hl (by decide), ys' ++ [y], ?_, bmut z', upd_same⟩
      rw [off_mut (show plus S D D from .inr rfl), List.take_add_one, ej, ← List.append_assoc]
      exact dpa_app py' (.cons (dp_same (off_but z') _ _ de) .nil)
    · obtain ⟨ys', py', z', hd'⟩ := h5
      refine ⟨ys', ?_, ?_, hd'⟩
      · rw [flat_take]
        rwa [List.take_of_length_le (by omega)] at py'
      · intro c o h
        exact z' c o (ne_of_none h hD) (s4 c o (z c o h))
  · rintro H2 ⟨ys, py, z, hd⟩
    refine done D H2 ys (s.free hD) (s.trans z) hd (dp_lst (kn1.new hD) hd ?_)
    rw [← ln]
    exact dpa_same (off_fin (D := D)) _ _ py
end Kh

set_option maxRecDepth 100000
set_option maxHeartbeats 4000000
namespace PySem
open PySem.AutoSeq1
theorem kh_extend_tuple (l : Addr) (items : Array Value) (n : Nat) (b : Addr) (items2 : Array Value) (n2 : Nat) (dd : Option Addr) (sl : Array (Option Value)) (hs0 : ¬(!items.isEmpty && Builtin.List.listTooLong (items.size + items2.size)) = true) (hs1 : items.size ≤ sizeLine)
    (hs2 : items.size + items2.size ≤ sizeLine + 1) :
    Meets (Builtin.«list.extend» ⟨[.ref l, .ref b], []⟩) (fun _ R s => s.heap.get? l = some { cls := .type "list", dict := none, data := .seq items n, slots := #[] } ∧ s.heap.get? b = some { cls := .type "tuple", dict := dd, data := .seq items2 n2, slots := sl } ∧
      R (.ok (.ret Value.none)) { s with heap := s.heap.update l (Obj.mapSeq fun x => x ++ items2), toks := s.toks }) :=
  .of_wp fun prog w A R s h => by
    obtain ⟨hp, g, d, tk, os⟩ := s
    obtain ⟨hl, hb, h⟩ := h
    have f1 := idx_int; have f2 := sub_tuple_tuple; have f3 := sub_list_list; have f4 := sub_tuple_list; have f5 := sub_list_tuple
    have hz' : (items ++ items2).size ≤ sizeLine + 1 := by rw [Array.size_append]; exact hs2
    wp_walk using (wpAny_updateSeq hl rfl (hz := hs1) (_hz' := hz')), wpAny_loadPart' hl, wpAny_loadPart' hb
    exact ⟨_, rfl, h⟩
theorem kh_extend_list (l : Addr) (items : Array Value) (n : Nat) (b : Addr) (items2 : Array Value) (n2 : Nat) (dd : Option Addr) (sl : Array (Option Value)) (hs0 : ¬(!items.isEmpty && Builtin.List.listTooLong (items.size + items2.size)) = true) (hs1 : items.size ≤ sizeLine)
    (hs2 : items.size + items2.size ≤ sizeLine + 1) :
    Meets (Builtin.«list.extend» ⟨[.ref l, .ref b], []⟩) (fun _ R s => s.heap.get? l = some { cls := .type "list", dict := none, data := .seq items n, slots := #[] } ∧ s.heap.get? b = some { cls := .type "list", dict := dd, data := .seq items2 n2, slots := sl } ∧
      R (.ok (.ret Value.none)) { s with heap := s.heap.update l (Obj.mapSeq fun x => x ++ items2), toks := s.toks }) :=
  .of_wp fun prog w A R s h => by
    obtain ⟨hp, g, d, tk, os⟩ := s
    obtain ⟨hl, hb, h⟩ := h
    have f1 := idx_int; have f2 := sub_tuple_tuple; have f3 := sub_list_list; have f4 := sub_tuple_list; have f5 := sub_list_tuple
    have hz' : (items ++ items2).size ≤ sizeLine + 1 := by rw [Array.size_append]; exact hs2
    wp_walk using (wpAny_updateSeq hl rfl (hz := hs1) (_hz' := hz')), wpAny_loadPart' hl, wpAny_loadPart' hb
    exact ⟨_, rfl, h⟩
end PySem
namespace Kh
open PySem PySem.Spec PyProof.Rows L2
/-- xs.extend(a list or a tuple) -/
def rExtS (K : PySem.W.Frag) : V → List V → Hp → VK → Prop := fun x vs H Q => ∃ l b xs zs, x = .ref l ∧ vs = [.ref b] ∧ H l = some (.lst xs) ∧ (SqL K H b zs ∨ SqT K H b zs) ∧ xs.length + zs.length ≤ sizeLine ∧ Q .non (upd H l (.lst (xs ++ zs)))
theorem mt_extS {X : Cx} : MtM X "list.extend" (rExtS X.K) := by
  intro pins s ρ H x vs v us Q I rx rv h
  obtain ⟨l, b, xs, zs, rfl, rfl, hH, hB, hz, q⟩ := h
  cases rx
  obtain ⟨u, rfl, ru⟩ := rv.one
  cases ru
  obtain ⟨z, its, n, r, hl, e⟩ := I.lstM hH
  have fin : ∀ (its2 : List Value), Vals zs its2 → EP X pins ρ Q Value.none { s with heap := s.heap.update l (Obj.mapSeq fun x => x ++ its2.toArray), toks := s.toks } := fun its2 r2 =>
    ⟨.non, _, I.lset (its' := its ++ its2) hH e (by simp) (r.append r2) (by rw [List.length_append]; omega), rfl, q⟩
  have door : ∀ its2 : List Value, Vals zs its2 → ¬ (!its.toArray.isEmpty && Builtin.List.listTooLong (its.toArray.size + its2.toArray.size)) = true := fun its2 r2 => by
    have h1 : its.toArray.size + its2.toArray.size ≤ sizeLine := by rw [List.size_toArray, List.size_toArray, ← hl, ← r2.length]; exact hz
    rw [notLongL h1, Bool.and_false]; exact Bool.false_ne_true
  rcases hB with hB | hB
  · obtain ⟨its2, r2, ⟨⟨oc, od, ot, os⟩, n2, e2, h1, h2, h3⟩, _⟩ := I.list hB
    simp only at h1 h2 h3
    subst h1; subst h2; subst h3
    refine call_meets F.slot_list_extend ⟨_, e, rfl⟩ F.entry_list_extend (F.args_list_extend_2 _ _) (kh_extend_list l its.toArray n b its2.toArray n2 none os (door its2 r2) (by rw [List.size_toArray]; omega) ?_) ⟨e, e2, fin its2 r2⟩
    rw [List.size_toArray, List.size_toArray, ← hl, ← r2.length]; omega
  · obtain ⟨its2, r2, ⟨⟨oc, od, ot, os⟩, e2, h1, n2, h3⟩, _⟩ := I.tuple hB
    simp only at h1 h3
    subst h1; subst h3
    refine call_meets F.slot_list_extend ⟨_, e, rfl⟩ F.entry_list_extend (F.args_list_extend_2 _ _) (kh_extend_tuple l its.toArray n b its2.toArray n2 od os (door its2 r2) (by rw [List.size_toArray]; omega) ?_) ⟨e, e2, fin its2 r2⟩
    rw [List.size_toArray, List.size_toArray, ← hl, ← r2.length]; omega
end Kh

set_option maxRecDepth 100000
set_option maxHeartbeats 1000000
/-! the rules with the written part named (within a comprehension it is the body's) -/
namespace Kh
open PySem PySem.Spec PyProof.Rows L2
section
variable {X : Cx} {K : PySem.W.Frag}
theorem k_ix (h : X.K = K := by rfl) : IxR X (rIx K) := by subst h; exact ix_seq
theorem k_isi (h : X.K = K := by rfl) : CallR X (.builtin "isinstance") (rIsi K) := by subst h; exact call_isi
theorem k_isiT (h : X.K = K := by rfl) : CallR X (.builtin "isinstance") (rIsiT K) := by subst h; exact call_isiT
theorem k_len (h : X.K = K := by rfl) : CallR X (.builtin "len") (rLen K) := by subst h; exact call_lenR
theorem k_tup (h : X.K = K := by rfl) : CallR X (.type "tuple") (rTupOf K) := by subst h; exact call_tupR
theorem k_list (h : X.K = K := by rfl) : CallR X (.type "list") (rListOf K) := by subst h; exact call_listR
theorem k_all (hc : X.calm = true) (h : X.K = K := by rfl) : CallR X (.builtin "all") (rAll K) := by subst h; exact cr_all hc
theorem k_any (hc : X.calm = true) (h : X.K = K := by rfl) : CallR X (.builtin "any") (rAny K) := by subst h; exact cr_any hc
theorem k_max (hc : X.calm = true) (h : X.K = K := by rfl) : CallR X (.builtin "max") (rMax K) := by subst h; exact cr_max hc
theorem k_in (h : X.K = K := by rfl) : OpR X (compareOp .In) (rIn K false) := by subst h; exact op_in_seq
theorem k_notIn (h : X.K = K := by rfl) : OpR X (compareOp .NotIn) (rIn K true) := by subst h; exact op_notIn_seq
theorem k_eqD (hu : X.A.units + 64 < cLine) (h : X.K = K := by rfl) : OpR X (compareOp .Eq) (rEqD K) := by subst h; exact op_eqD hu
theorem k_neD (hu : X.A.units + 64 < cLine) (h : X.K = K := by rfl) : OpR X (compareOp .NotEq) (rNeD K) := by subst h; exact op_neD hu
theorem k_sl (h : X.K = K := by rfl) : SlR X (rSlL K) := by subst h; exact sl_list
theorem k_ext (h : X.K = K := by rfl) : MtM X "list.extend" (rExtS K) := by subst h; exact mt_extS
theorem k_pi {tg e : Expr} {t : TE} (he : PE X e t) (h : X.K = K := by rfl) : PI X tg e (fun σ H R => iList K t σ H R ∨ iTup K t σ H R) := by subst h; exact pi_any he
theorem k_fld {e : Expr} {f : Str} {pos : Pos} {t : TE} (he : PE X e t) (hb : attributeBase e f X.env (eval e X.env) = eval e X.env) (h : X.K = K := by rfl) : PE X (.Attribute e f pos) (tFld K t f) := by subst h; exact pe_fld he hb
end
end Kh

set_option maxRecDepth 100000
set_option maxHeartbeats 4000000
namespace K31
open PySem PySem.Spec PyProof.Rows L2 Kh
def top (i : Nat) : Stmt := PySem.Challenge.pw_oneshelf_k40_tables_and_results.main.body.getD i (.Pass ⟨0, 0, 0, 0⟩)
abbrev is_integer_s : Stmt := top 1
abbrev is_integer_N : List Str := ["value"]
theorem sc_is_integer : FnScope is_integer_N ["value"] (defScope is_integer_s) := ⟨rfl, rfl, rfl, by decide +kernel, rfl, by decide +kernel, by decide +kernel⟩
abbrev is_count_s : Stmt := top 2
abbrev is_count_N : List Str := ["value"]
theorem sc_is_count : FnScope is_count_N ["value"] (defScope is_count_s) := ⟨rfl, rfl, rfl, by decide +kernel, rfl, by decide +kernel, by decide +kernel⟩
abbrev is_list_s : Stmt := top 3
abbrev is_list_N : List Str := ["value"]
theorem sc_is_list : FnScope is_list_N ["value"] (defScope is_list_s) := ⟨rfl, rfl, rfl, by decide +kernel, rfl, by decide +kernel, by decide +kernel⟩
abbrev is_number_below_s : Stmt := top 4
abbrev is_number_below_N : List Str := ["value", "many"]
theorem sc_is_number_below : FnScope is_number_below_N ["value", "many"] (defScope is_number_below_s) := ⟨rfl, rfl, rfl, by decide +kernel, rfl, by decide +kernel, by decide +kernel⟩
abbrev is_row_s : Stmt := top 13
abbrev is_row_N : List Str := ["value", "size", "part"]
theorem sc_is_row : FnScope is_row_N ["value", "size"] (defScope is_row_s) := ⟨rfl, rfl, rfl, by decide +kernel, rfl, by decide +kernel, by decide +kernel⟩
abbrev Table_init_s : Stmt := inClass (top 14) 0
abbrev Table_init_N : List Str := ["self", "rows", "position", "row"]
theorem sc_Table_init : FnScope Table_init_N ["self", "rows"] (defScope Table_init_s) := ⟨rfl, rfl, rfl, by decide +kernel, rfl, by decide +kernel, by decide +kernel⟩
abbrev Table_rows_s : Stmt := inClass (top 14) 1
abbrev Table_rows_N : List Str := ["self", "row"]
theorem sc_Table_rows : FnScope Table_rows_N ["self"] (defScope Table_rows_s) := ⟨rfl, rfl, rfl, by decide +kernel, rfl, by decide +kernel, by decide +kernel⟩
abbrev Table_at_s : Stmt := inClass (top 14) 2
abbrev Table_at_N : List Str := ["self", "x", "y"]
theorem sc_Table_at : FnScope Table_at_N ["self", "x", "y"] (defScope Table_at_s) := ⟨rfl, rfl, rfl, by decide +kernel, rfl, by decide +kernel, by decide +kernel⟩
abbrev Table_len_s : Stmt := inClass (top 14) 3
abbrev Table_len_N : List Str := ["self"]
theorem sc_Table_len : FnScope Table_len_N ["self"] (defScope Table_len_s) := ⟨rfl, rfl, rfl, by decide +kernel, rfl, by decide +kernel, by decide +kernel⟩
abbrev Table_eq_s : Stmt := inClass (top 14) 4
abbrev Table_eq_N : List Str := ["self", "other"]
theorem sc_Table_eq : FnScope Table_eq_N ["self", "other"] (defScope Table_eq_s) := ⟨rfl, rfl, rfl, by decide +kernel, rfl, by decide +kernel, by decide +kernel⟩
abbrev Table_repr_s : Stmt := inClass (top 14) 5
abbrev Table_repr_N : List Str := ["self"]
theorem sc_Table_repr : FnScope Table_repr_N ["self"] (defScope Table_repr_s) := ⟨rfl, rfl, rfl, by decide +kernel, rfl, by decide +kernel, by decide +kernel⟩
abbrev check_value_s : Stmt := top 15
abbrev check_value_N : List Str := ["table", "value"]
theorem sc_check_value : FnScope check_value_N ["table", "value"] (defScope check_value_s) := ⟨rfl, rfl, rfl, by decide +kernel, rfl, by decide +kernel, by decide +kernel⟩
abbrev melted_s : Stmt := top 16
abbrev melted_N : List Str := ["table", "value", "found", "waiting", "part"]
theorem sc_melted : FnScope melted_N ["table", "value"] (defScope melted_s) := ⟨rfl, rfl, rfl, by decide +kernel, rfl, by decide +kernel, by decide +kernel⟩
abbrev is_melt_s : Stmt := top 17
abbrev is_melt_N : List Str := ["table", "value"]
theorem sc_is_melt : FnScope is_melt_N ["table", "value"] (defScope is_melt_s) := ⟨rfl, rfl, rfl, by decide +kernel, rfl, by decide +kernel, by decide +kernel⟩
abbrev result_of_s : Stmt := top 18
abbrev result_of_N : List Str := ["table", "melt"]
theorem sc_result_of : FnScope result_of_N ["table", "melt"] (defScope result_of_s) := ⟨rfl, rfl, rfl, by decide +kernel, rfl, by decide +kernel, by decide +kernel⟩
abbrev result_s : Stmt := top 19
abbrev result_N : List Str := ["table", "melt"]
theorem sc_result : FnScope result_N ["table", "melt"] (defScope result_s) := ⟨rfl, rfl, rfl, by decide +kernel, rfl, by decide +kernel, by decide +kernel⟩
abbrev _law_pot_s : Stmt := top 21
abbrev _law_pot_N : List Str := ["_law_script", "_law_k", "_law_cell"]
theorem sc__law_pot : FnScope _law_pot_N ["_law_script", "_law_k"] (defScope _law_pot_s) := ⟨rfl, rfl, rfl, by decide +kernel, rfl, by decide +kernel, by decide +kernel⟩
abbrev _law_draw_s : Stmt := top 22
abbrev _law_draw_N : List Str := ["_law_pot_here", "_law_many", "_law_digit"]
theorem sc__law_draw : FnScope _law_draw_N ["_law_pot_here", "_law_many"] (defScope _law_draw_s) := ⟨rfl, rfl, rfl, by decide +kernel, rfl, by decide +kernel, by decide +kernel⟩
abbrev _law_pick_s : Stmt := top 23
abbrev _law_pick_N : List Str := ["_law_pot_here", "_law_some"]
theorem sc__law_pick : FnScope _law_pick_N ["_law_pot_here", "_law_some"] (defScope _law_pick_s) := ⟨rfl, rfl, rfl, by decide +kernel, rfl, by decide +kernel, by decide +kernel⟩
abbrev _law_mixed_s : Stmt := top 24
abbrev _law_mixed_N : List Str := ["_law_pot_here", "_law_some", "_law_left", "_law_found"]
theorem sc__law_mixed : FnScope _law_mixed_N ["_law_pot_here", "_law_some"] (defScope _law_mixed_s) := ⟨rfl, rfl, rfl, by decide +kernel, rfl, by decide +kernel, by decide +kernel⟩
abbrev _law_lots_s : Stmt := top 25
abbrev _law_lots_N : List Str := ["_law_pot_here", "_law_found", "_law_turn", "_law_fresh", "_law_more", "_law_some", "_law_one", "_law_at"]
theorem sc__law_lots : FnScope _law_lots_N ["_law_pot_here"] (defScope _law_lots_s) := ⟨rfl, rfl, rfl, by decide +kernel, rfl, by decide +kernel, by decide +kernel⟩
abbrev _law_melting_s : Stmt := top 26
abbrev _law_melting_N : List Str := ["_law_pot_here", "_law_lots_here", "_law_one", "_law_other"]
theorem sc__law_melting : FnScope _law_melting_N ["_law_pot_here"] (defScope _law_melting_s) := ⟨rfl, rfl, rfl, by decide +kernel, rfl, by decide +kernel, by decide +kernel⟩
abbrev _law_table_s : Stmt := top 27
abbrev _law_table_N : List Str := ["_law_pot_here", "_law_rows", "_law_way", "_law_turn", "_law_one", "_law_other"]
theorem sc__law_table : FnScope _law_table_N ["_law_pot_here"] (defScope _law_table_s) := ⟨rfl, rfl, rfl, by decide +kernel, rfl, by decide +kernel, by decide +kernel⟩
abbrev _law_result_s : Stmt := top 30
abbrev _law_result_N : List Str := ["_law_rows", "_law_melt"]
theorem sc__law_result : FnScope _law_result_N ["_law_rows", "_law_melt"] (defScope _law_result_s) := ⟨rfl, rfl, rfl, by decide +kernel, rfl, by decide +kernel, by decide +kernel⟩
abbrev _law_grouped_s : Stmt := top 31
abbrev _law_grouped_N : List Str := ["_law_pot_here", "_law_values_here", "_law_left", "_law_at"]
theorem sc__law_grouped : FnScope _law_grouped_N ["_law_pot_here", "_law_values_here"] (defScope _law_grouped_s) := ⟨rfl, rfl, rfl, by decide +kernel, rfl, by decide +kernel, by decide +kernel⟩
abbrev _law_heard_s : Stmt := top 32
abbrev _law_heard_N : List Str := ["_law_call", "_law_told", "e"]
theorem sc__law_heard : FnScope _law_heard_N ["_law_call"] (defScope _law_heard_s) := ⟨rfl, rfl, rfl, by decide +kernel, rfl, by decide +kernel, by decide +kernel⟩
abbrev _law_told_right_s : Stmt := top 33
abbrev _law_told_right_N : List Str := ["_law_table_here", "_law_rows", "_law_span", "_law_some", "_law_x", "_law_same", "_law_other", "_law_at", "_law_spot", "_law_near", "_law_odd", "_law_told", "_law_y", "_law_row"]
theorem sc__law_told_right : FnScope _law_told_right_N ["_law_table_here", "_law_rows"] (defScope _law_told_right_s) := ⟨rfl, rfl, rfl, by decide +kernel, rfl, by decide +kernel, by decide +kernel⟩
abbrev _law_refused_right_s : Stmt := top 34
abbrev _law_refused_right_N : List Str := ["_law_pot_here", "_law_rows", "_law_size", "_law_at", "_law_odd", "_law_bad"]
theorem sc__law_refused_right : FnScope _law_refused_right_N ["_law_pot_here", "_law_rows"] (defScope _law_refused_right_s) := ⟨rfl, rfl, rfl, by decide +kernel, rfl, by decide +kernel, by decide +kernel⟩
abbrev _law_is_melt_s : Stmt := top 35
abbrev _law_is_melt_N : List Str := ["_law_rows", "_law_thing"]
theorem sc__law_is_melt : FnScope _law_is_melt_N ["_law_rows", "_law_thing"] (defScope _law_is_melt_s) := ⟨rfl, rfl, rfl, by decide +kernel, rfl, by decide +kernel, by decide +kernel⟩
abbrev _law_melts_right_s : Stmt := top 36
abbrev _law_melts_right_N : List Str := ["_law_pot_here", "_law_table_here", "_law_rows", "_law_size", "_law_turn", "_law_values_here", "_law_melt", "_law_some", "_law_odd", "_law_thing", "_law_is_one", "_law_more"]
theorem sc__law_melts_right : FnScope _law_melts_right_N ["_law_pot_here", "_law_table_here", "_law_rows"] (defScope _law_melts_right_s) := ⟨rfl, rfl, rfl, by decide +kernel, rfl, by decide +kernel, by decide +kernel⟩
abbrev _law_many_right_s : Stmt := top 37
abbrev _law_many_right_N : List Str := ["_law_table_here", "_law_rows", "_law_five", "_law_ten", "_law_forty", "_law_more"]
theorem sc__law_many_right : FnScope _law_many_right_N ["_law_table_here", "_law_rows"] (defScope _law_many_right_s) := ⟨rfl, rfl, rfl, by decide +kernel, rfl, by decide +kernel, by decide +kernel⟩
abbrev _law_right_s : Stmt := top 38
abbrev _law_right_N : List Str := ["_law_pot_here", "_law_rows", "_law_passed", "_law_table_here", "_law_row"]
theorem sc__law_right : FnScope _law_right_N ["_law_pot_here"] (defScope _law_right_s) := ⟨rfl, rfl, rfl, by decide +kernel, rfl, by decide +kernel, by decide +kernel⟩
abbrev law_s : Stmt := top 39
abbrev law_N : List Str := ["_law_script", "_law_k"]
theorem sc_law : FnScope law_N ["_law_script"] (defScope law_s) := ⟨rfl, rfl, rfl, by decide +kernel, rfl, by decide +kernel, by decide +kernel⟩
structure Txt (K : PySem.W.Frag) (mg : Str → Option Value) (a : Nat → Addr) (fd : Nat → FuncData) (C : Addr) (tk : Nat → Tok) : Prop where
  F_is_integer : Fun K "is_integer" "is_integer" is_integer_s (a 0) (fd 0)
  m_is_integer : mg "is_integer" = some (.ref (a 0))
  b_is_integer : Binds K (fd 0) ["value"] []
  F_is_count : Fun K "is_count" "is_count" is_count_s (a 1) (fd 1)
  m_is_count : mg "is_count" = some (.ref (a 1))
  b_is_count : Binds K (fd 1) ["value"] []
  F_is_list : Fun K "is_list" "is_list" is_list_s (a 2) (fd 2)
  m_is_list : mg "is_list" = some (.ref (a 2))
  b_is_list : Binds K (fd 2) ["value"] []
  F_is_number_below : Fun K "is_number_below" "is_number_below" is_number_below_s (a 3) (fd 3)
  m_is_number_below : mg "is_number_below" = some (.ref (a 3))
  b_is_number_below : Binds K (fd 3) ["value", "many"] []
  F_is_row : Fun K "is_row" "is_row" is_row_s (a 4) (fd 4)
  m_is_row : mg "is_row" = some (.ref (a 4))
  b_is_row : Binds K (fd 4) ["value", "size"] []
  F_Table_init : Fun K "__init__" "Table.__init__" Table_init_s (a 5) (fd 5)
  b_Table_init : Binds K (fd 5) ["self", "rows"] []
  F_Table_rows : Fun K "rows" "Table.rows" Table_rows_s (a 6) (fd 6)
  b_Table_rows : Binds K (fd 6) ["self"] []
  F_Table_at : Fun K "at" "Table.at" Table_at_s (a 7) (fd 7)
  b_Table_at : Binds K (fd 7) ["self", "x", "y"] []
  F_Table_len : Fun K "__len__" "Table.__len__" Table_len_s (a 8) (fd 8)
  b_Table_len : Binds K (fd 8) ["self"] []
  F_Table_eq : Fun K "__eq__" "Table.__eq__" Table_eq_s (a 9) (fd 9)
  b_Table_eq : Binds K (fd 9) ["self", "other"] []
  F_Table_repr : Fun K "__repr__" "Table.__repr__" Table_repr_s (a 10) (fd 10)
  b_Table_repr : Binds K (fd 10) ["self"] []
  F_check_value : Fun K "check_value" "check_value" check_value_s (a 11) (fd 11)
  m_check_value : mg "check_value" = some (.ref (a 11))
  b_check_value : Binds K (fd 11) ["table", "value"] []
  F_melted : Fun K "melted" "melted" melted_s (a 12) (fd 12)
  m_melted : mg "melted" = some (.ref (a 12))
  b_melted : Binds K (fd 12) ["table", "value"] []
  F_is_melt : Fun K "is_melt" "is_melt" is_melt_s (a 13) (fd 13)
  m_is_melt : mg "is_melt" = some (.ref (a 13))
  b_is_melt : Binds K (fd 13) ["table", "value"] []
  F_result_of : Fun K "result_of" "result_of" result_of_s (a 14) (fd 14)
  m_result_of : mg "result_of" = some (.ref (a 14))
  b_result_of : Binds K (fd 14) ["table", "melt"] []
  F_result : Fun K "result" "result" result_s (a 15) (fd 15)
  m_result : mg "result" = some (.ref (a 15))
  b_result : Binds K (fd 15) ["table", "melt"] []
  F__law_pot : Fun K "_law_pot" "_law_pot" _law_pot_s (a 16) (fd 16)
  m__law_pot : mg "_law_pot" = some (.ref (a 16))
  b__law_pot : Binds K (fd 16) ["_law_script", "_law_k"] []
  F__law_draw : Fun K "_law_draw" "_law_draw" _law_draw_s (a 17) (fd 17)
  m__law_draw : mg "_law_draw" = some (.ref (a 17))
  b__law_draw : Binds K (fd 17) ["_law_pot_here", "_law_many"] []
  F__law_pick : Fun K "_law_pick" "_law_pick" _law_pick_s (a 18) (fd 18)
  m__law_pick : mg "_law_pick" = some (.ref (a 18))
  b__law_pick : Binds K (fd 18) ["_law_pot_here", "_law_some"] []
  F__law_mixed : Fun K "_law_mixed" "_law_mixed" _law_mixed_s (a 19) (fd 19)
  m__law_mixed : mg "_law_mixed" = some (.ref (a 19))
  b__law_mixed : Binds K (fd 19) ["_law_pot_here", "_law_some"] []
  F__law_lots : Fun K "_law_lots" "_law_lots" _law_lots_s (a 20) (fd 20)
  m__law_lots : mg "_law_lots" = some (.ref (a 20))
  b__law_lots : Binds K (fd 20) ["_law_pot_here"] []
  F__law_melting : Fun K "_law_melting" "_law_melting" _law_melting_s (a 21) (fd 21)
  m__law_melting : mg "_law_melting" = some (.ref (a 21))
  b__law_melting : Binds K (fd 21) ["_law_pot_here"] []
  F__law_table : Fun K "_law_table" "_law_table" _law_table_s (a 22) (fd 22)
  m__law_table : mg "_law_table" = some (.ref (a 22))
  b__law_table : Binds K (fd 22) ["_law_pot_here"] []
  F__law_result : Fun K "_law_result" "_law_result" _law_result_s (a 23) (fd 23)
  m__law_result : mg "_law_result" = some (.ref (a 23))
  b__law_result : Binds K (fd 23) ["_law_rows", "_law_melt"] []
  F__law_grouped : Fun K "_law_grouped" "_law_grouped" _law_grouped_s (a 24) (fd 24)
  m__law_grouped : mg "_law_grouped" = some (.ref (a 24))
  b__law_grouped : Binds K (fd 24) ["_law_pot_here", "_law_values_here"] []
  F__law_heard : Fun K "_law_heard" "_law_heard" _law_heard_s (a 25) (fd 25)
  m__law_heard : mg "_law_heard" = some (.ref (a 25))
  b__law_heard : Binds K (fd 25) ["_law_call"] []
  F__law_told_right : Fun K "_law_told_right" "_law_told_right" _law_told_right_s (a 26) (fd 26)
  m__law_told_right : mg "_law_told_right" = some (.ref (a 26))
  b__law_told_right : Binds K (fd 26) ["_law_table_here", "_law_rows"] []
  F__law_refused_right : Fun K "_law_refused_right" "_law_refused_right" _law_refused_right_s (a 27) (fd 27)
  m__law_refused_right : mg "_law_refused_right" = some (.ref (a 27))
  b__law_refused_right : Binds K (fd 27) ["_law_pot_here", "_law_rows"] []
  F__law_is_melt : Fun K "_law_is_melt" "_law_is_melt" _law_is_melt_s (a 28) (fd 28)
  m__law_is_melt : mg "_law_is_melt" = some (.ref (a 28))
  b__law_is_melt : Binds K (fd 28) ["_law_rows", "_law_thing"] []
  F__law_melts_right : Fun K "_law_melts_right" "_law_melts_right" _law_melts_right_s (a 29) (fd 29)
  m__law_melts_right : mg "_law_melts_right" = some (.ref (a 29))
  b__law_melts_right : Binds K (fd 29) ["_law_pot_here", "_law_table_here", "_law_rows"] []
  F__law_many_right : Fun K "_law_many_right" "_law_many_right" _law_many_right_s (a 30) (fd 30)
  m__law_many_right : mg "_law_many_right" = some (.ref (a 30))
  b__law_many_right : Binds K (fd 30) ["_law_table_here", "_law_rows"] []
  F__law_right : Fun K "_law_right" "_law_right" _law_right_s (a 31) (fd 31)
  m__law_right : mg "_law_right" = some (.ref (a 31))
  b__law_right : Binds K (fd 31) ["_law_pot_here"] []
  F_law : Fun K "law" "law" law_s (a 32) (fd 32)
  m_law : mg "law" = some (.ref (a 32))
  b_law : Binds K (fd 32) ["_law_script"] []
  m_MOST_VALUES : mg "MOST_VALUES" = some (.int 7 (tk 0))
  m_MOST_MELTED : mg "MOST_MELTED" = some (.int 40 (tk 1))
  z_isinstance : mg "isinstance" = none
  z_int : mg "int" = none
  z_bool : mg "bool" = none
  z_list : mg "list" = none
  z_tuple : mg "tuple" = none
  z_all : mg "all" = none
  z_len : mg "len" = none
  z_enumerate : mg "enumerate" = none
  z_abs : mg "abs" = none
  z_max : mg "max" = none
  z_divmod : mg "divmod" = none
  z_range : mg "range" = none
  z_sorted : mg "sorted" = none
  z_set : mg "set" = none
  z_repr : mg "repr" = none
  z_any : mg "any" = none
  z_min : mg "min" = none
end K31

set_option maxRecDepth 100000
set_option maxHeartbeats 4000000
namespace K31
open PySem PySem.Spec PyProof.Rows L2 Kh
section
variable {P : Program} {w : World} {K : PySem.W.Frag} {mg : Str → Option Value} {base : Heap} {a : Nat → Addr} {fd : Nat → FuncData} {C : Addr} {tk : Nat → Tok}
abbrev spIsInteger (K : PySem.W.Frag) : Sp := spP K d1 (fun _ => True) fun d => .bool (isIntD d)
theorem ok_is_integer (T : Txt K mg a fd C tk) : FnOk P w K mg base CX0 1 (a 0) (fd 0) ["value"] (spIsInteger K) := by
  refine T.F_is_integer.ok sc_is_integer (fun vs H Q E h => spP_len (fun _ => rfl) h) (fun cdv A outer s H vs Q E hr h => ?_)
  obtain ⟨S, d, kn, hd, -, q⟩ := h
  obtain - | ⟨hd, ⟨⟩⟩ := hd
  rename_i v
  refine ⟨_, (pss_one (ps_ret (pe_and (pe_callB call_isi (by rfl) T.z_isinstance (by decide +kernel) (pa_cons (pv 0) (pa_cons (pe_bltn (v := .ty "int") (by rfl) T.z_int (by decide +kernel) rfl) pa_nil))) (pe_one (pe_not (pe_callB call_isi (by rfl) T.z_isinstance (by decide +kernel) (pa_cons (pv 0) (pa_cons (pe_bltn (v := .ty "bool") (by rfl) T.z_bool (by decide +kernel) rfl) pa_nil)))))))), ?_⟩
  have fin : ∀ b, isIntD d = b → Q (.bl b) H := fun b e => q _ _ (Same.refl H) (by subst e; exact .bl _)
  refine s_ret (t_andV (t_cb2 (t_var rfl (t_c (isi_d off_sub hd (kit_int d) (bl_if (fun c => ?_) (fun c => ?_)))))))
  · refine t_notV (t_cb2 (t_var rfl (t_c (isi_d off_sub hd (kit_bool d) ⟨_, rfl, fin _ ?_⟩))))
    cases d <;> first | rfl | cases c
  · exact fin _ (by cases d <;> first | rfl | cases c)
abbrev spIsCount (K : PySem.W.Frag) : Sp := spP K d1 (fun _ => True) fun d => .bool (isCountD d)
theorem ok_is_count (T : Txt K mg a fd C tk) : FnOk P w K mg base CX0 2 (a 1) (fd 1) ["value"] (spIsCount K) := by
  have G_is_integer : FnOk P w K mg base CX0 1 (a 0) (fd 0) ["value"] (spIsInteger K) := ok_is_integer T
  refine T.F_is_count.ok sc_is_count (fun vs H Q E h => spP_len (fun _ => rfl) h) (fun cdv A outer s H vs Q E hr h => ?_)
  obtain ⟨S, d, kn, hd, -, q⟩ := h
  obtain - | ⟨hd, ⟨⟩⟩ := hd
  rename_i v
  refine ⟨_, (pss_one (ps_ret (pe_and (pe_call G_is_integer (hr.mono (by omega)) (by rfl) T.m_is_integer T.F_is_integer.kp T.b_is_integer .nil pass0 (pa_cons (pv 0) pa_nil)) (pe_one (pe_cmpR op_ge (pv 0) pe_int (nomark _)))))), ?_⟩
  have fin : ∀ b H', isCountD d = b → Same H H' → Q (.bl b) H' := fun b H' e sm => q _ _ sm (by subst e; exact .bl _)
  refine s_ret (t_andV (t_call1 (t_var rfl (spP_bl off_sub d (.cons hd .nil) trivial rfl fun H' sm => bl_if (fun c => ?_) (fun c => fin _ _ (by cases d <;> first | rfl | cases c) sm)))))
  cases d with
  | int i =>
    cases hd
    exact t_op (t_var rfl (t_c ⟨_, _, rfl, rfl, fin _ _ rfl sm⟩))
  | _ => cases c
abbrev spIsList (K : PySem.W.Frag) : Sp := spP K d1 (fun _ => True) fun d => .bool (isListD d)
theorem ok_is_list (T : Txt K mg a fd C tk) : FnOk P w K mg base CX0 1 (a 2) (fd 2) ["value"] (spIsList K) := by
  refine T.F_is_list.ok sc_is_list (fun vs H Q E h => spP_len (fun _ => rfl) h) (fun cdv A outer s H vs Q E hr h => ?_)
  obtain ⟨S, d, kn, hd, -, q⟩ := h
  obtain - | ⟨hd, ⟨⟩⟩ := hd
  rename_i v
  refine ⟨_, (pss_one (ps_ret (pe_callB call_isiT (by rfl) T.z_isinstance (by decide +kernel) (pa_cons (pv 0) (pa_cons (pe_tup (pa_cons (pe_bltn (v := .ty "list") (by rfl) T.z_list (by decide +kernel) rfl) (pa_cons (pe_bltn (v := .ty "tuple") (by rfl) T.z_tuple (by decide +kernel) rfl) pa_nil))) pa_nil))))), ?_⟩
  refine ⟨v, rfl, by decide, fun p hp => ?_⟩
  exact isi2_d (off_sub.trans (same_new hp)) hd upd_same (kit_list d) (kit_tup d) (q _ _ (same_new hp) (.bl _))
abbrev spBelow (K : PySem.W.Frag) : Sp := spP K (fun x : PyData × Int => [x.1, .int x.2]) (fun _ => True) fun x => .bool (belowD x.2 x.1)
theorem ok_is_number_below (T : Txt K mg a fd C tk) : FnOk P w K mg base CX0 3 (a 3) (fd 3) ["value", "many"] (spBelow K) := by
  have G_is_count : FnOk P w K mg base CX0 2 (a 1) (fd 1) ["value"] (spIsCount K) := ok_is_count T
  refine T.F_is_number_below.ok sc_is_number_below (fun vs H Q E h => spP_len (fun _ => rfl) h) (fun cdv A outer s H vs Q E hr h => ?_)
  obtain ⟨S, ⟨d, m⟩, kn, hd, -, q⟩ := h
  obtain - | ⟨hd, - | ⟨⟨⟩, ⟨⟩⟩⟩ := hd
  rename_i v
  refine ⟨_, (pss_one (ps_ret (pe_and (pe_call G_is_count (hr.mono (by omega)) (by rfl) T.m_is_count T.F_is_count.kp T.b_is_count .nil pass0 (pa_cons (pv 0) pa_nil)) (pe_one (pe_cmpR op_lt (pv 0) (pv 1) (nomark _)))))), ?_⟩
  have fin : ∀ b H', belowD m d = b → Same H H' → Q (.bl b) H' := fun b H' e sm => q _ _ sm (by subst e; exact .bl _)
  refine s_ret (t_andV (t_call1 (t_var rfl (spP_bl off_sub d (.cons hd .nil) trivial rfl fun H' sm => bl_if (fun c => ?_) (fun c => fin _ _ ?_ sm)))))
  · cases d with
    | int i =>
      cases hd
      refine t_op (t_var rfl (t_var rfl ⟨_, _, rfl, rfl, fin _ _ ?_ sm⟩))
      show (decide (0 ≤ i) && decide (i < m)) = decide (i < m)
      rw [show decide (0 ≤ i) = true from c]; rfl
    | _ => cases c
  · cases d <;> first | rfl | skip
    rename_i i
    show (decide (0 ≤ i) && decide (i < m)) = false
    rw [show decide (0 ≤ i) = false from c]; rfl
end
end K31

set_option maxRecDepth 100000
set_option maxHeartbeats 4000000
namespace K31
open PySem PySem.Spec PyProof.Rows L2 Kh
section
variable {P : Program} {w : World} {K : PySem.W.Frag} {mg : Str → Option Value} {base : Heap} {a : Nat → Addr} {fd : Nat → FuncData} {C : Addr} {tk : Nat → Tok}
/-- whole numbers told -/
def nD (n : Nat) : PyData := .int (n : Nat)
def nL (ns : List Nat) : PyData := .list (ns.map nD)
theorem mem_ints {n : Nat} {s : List Nat} : ((n : Nat) : Int) ∈ s.map (fun m : Nat => ((m : Nat) : Int)) ↔ n ∈ s := by
  constructor
  · intro h
    obtain ⟨m, hm, e⟩ := List.mem_map.mp h
    have : m = n := by omega
    exact this ▸ hm
  · intro h; exact List.mem_map.mpr ⟨n, h, rfl⟩
end
end K31

set_option maxRecDepth 100000
set_option maxHeartbeats 1000000
/-! name = {k: v for ..} -/
namespace Kh
open PySem PySem.Spec PyProof.Rows L2
theorem t_dc {wi : TI} {g : TG} {tt : TT} {tk tv : TE} {vs : List Nat} {σ : L2.St} {H : Hp} {Q : VK} (h : wi σ H fun J H1 => ∀ D, H1 D = none → ∃ W : Nat → Nat → Hp → Prop, (∃ m, W 0 m (upd H1 D (.dK []))) ∧ ∀ i m H, W i m H →
    (J.stop i H ∧ Q (.ref D) H) ∨ (J.go i H ∧ ∃ Nx : Hp → Prop, (∀ H', Nx H' → ∃ m', m' < m ∧ W (i + 1) m' H') ∧ ∀ x H', J.yld i H x H' → g x (wipe σ vs) H' fun σ2 H2 => wipe σ2 vs = wipe σ vs ∧ tt σ2 H2 fun b H3 =>
      if b = true then tk σ2 H3 fun y H4 => tv σ2 H4 fun z H5 => ∃ kvs k, y = kV k ∧ H5 D = some (.dK kvs) ∧ kvs.length < sizeLine ∧ Nx (upd H5 D (.dK (putK kvs k z))) else Nx H3)) : tDc wi g tt tk tv vs σ H Q := h
section
variable {X : Cx}
theorem sw_dict {kx vx : Expr} {gs : List Comprehension} {sc : Scope} {p q : Pos} {y : Str} {l : Nat} {env : Env} (h1 : env.scope.kind = .function) (h2 : env.scope.names.lookup y = some .local) (h3 : (q.line == p.line) = true)
    (h4 : (sc.names.any fun (n, k) => n == y && (k == .local || k == .cell)) = false) : swapsWith (.DictComp kx vx gs sc p) (some (.Name y q)) l env = pure true := by
  have k1 : env.kindOf y = some .local := h2
  have k2 : env.blockKind = .function := by (unfold Env.blockKind; rw [h1]; rfl)
  unfold swapsWith; simp only [k2, k1, h4, Expr.pos, h3]; rfl
theorem ps_setDc {i : Nat} {y : Str} {py : Pos} {kx vx tg it : Expr} {ifs : List Expr} {sc : Scope} {own : List (Str × Nat)} {pos spos : Pos} {wi : TI} {g : TG} {tt : TT} {tk tv : TE} (hc : X.calm = true) (hN : X.N.Nodup) (hy : X.N[i]? = some y) (hyl : X.env.scope.names.lookup y = some .local)
    (hsw : swapsWith (.DictComp kx vx [⟨tg, it, ifs, 0⟩] sc pos) (some (.Name y py)) spos.line X.env = pure true) (hi : PI X tg it wi) (ok : BlkOk X.N X.env.scope sc own)
    (hg : ∀ (s : Shared) (H : Hp) (C : Addr) (cl : List (Str × Addr)) (fp : List Addr), PG (X.blk s H sc (compEnvC sc cl C X.env) fp) tg g)
    (ht : ∀ (s : Shared) (H : Hp) (C : Addr) (cl : List (Str × Addr)) (fp : List Addr), PTs (X.blk s H sc (compEnvC sc cl C X.env) fp) ifs tt)
    (hk : ∀ (s : Shared) (H : Hp) (C : Addr) (cl : List (Str × Addr)) (fp : List Addr), PE (X.blk s H sc (compEnvC sc cl C X.env) fp) kx tk)
    (he : ∀ (s : Shared) (H : Hp) (C : Addr) (cl : List (Str × Addr)) (fp : List Addr), PE (X.blk s H sc (compEnvC sc cl C X.env) fp) vx tv) (hs : ∀ x, foldedSetIterable it X.env x = pure x := by intro _; rfl) :
    PS X (.Assign [.Name y py] (.DictComp kx vx [⟨tg, it, ifs, 0⟩] sc pos) spos) (tAsg (tDc wi g tt tk tv (own.map (·.2))) (gName i)) := by
  constructor
  intro pins s ρ H D I h
  rw [exec_Assign_Name_used _ _ _ _ hsw]
  have h' : tDc wi g tt tk tv (own.map (·.2)) ρ H (fun x H1 => gName i x ρ H1 D.nx) := h
  have step := dc_core (pos := pos) (pos' := firstIterPos [⟨tg, it, ifs, 0⟩] pos) (use := some (assign (.Name y py) X.env)) (Qf := fun _ s' => SP X pins D .next s') hc hN I hi ok hg ht hk he hs h' (fun L c s' m H' I' q hn f => by
    show wpAny _ _ (assign (.Name y py) X.env (.ref L)) _ _ _
    refine wpAny_assign_Name (store_ok2 (v := V.ref L) I' hN hy (.inl hyl) rfl ?_ (.inr hyl))
    rintro s2 I2 ⟨b, sb, hb⟩
    obtain ⟨f0, f1, f2, f3, f4, f5⟩ := f
    have nb : c ≠ b := hb.elim (fun z => z ▸ f1) fun z e => f4 y b z e.symm
    exact ⟨m, hn.sameBut sb nb, fun h3 sb3 => ⟨_, H', I2.turned (t' := s2.toks) (fun d o hd e => (sb3.2 d hd).trans e) f0 f1 f3 f4 f5, q⟩⟩)
  exact wpAny_bind (wpAny_standAt (wpAny_bind (wpAny_bind (thn step fun _ s' hq => wpAny_pure (wpAny_pure hq)))))
end
end Kh

set_option maxRecDepth 100000
set_option maxHeartbeats 4000000
namespace K31
open PySem PySem.Spec PyProof.Rows L2 Kh
section
variable {P : Program} {w : World} {K : PySem.W.Frag} {mg : Str → Option Value} {base : Heap} {a : Nat → Addr} {fd : Nat → FuncData} {C : Addr} {tk : Nat → Tok}
theorem dpa_snoc {K : PySem.W.Frag} {H : Hp} {d : PyData} : ∀ {ds : List PyData} {vs : List V}, DpAll K H vs (ds ++ [d]) → ∃ vs' v, vs = vs' ++ [v] ∧ DpAll K H vs' ds ∧ Dp K H v d
  | [], _, .cons h .nil => ⟨[], _, rfl, .nil, h⟩
  | e :: ds, _, .cons h t => by
    obtain ⟨vs', v, rfl, h1, h2⟩ := dpa_snoc t
    exact ⟨_ :: vs', v, rfl, .cons h h1, h2⟩
theorem nD_map (ns : List Nat) : ns.map nD = (ns.map fun m : Nat => ((m : Nat) : Int)).map PyData.int := by rw [List.map_map]; rfl
theorem isListD_sq (b : Bool) (ds : List PyData) : isListD (sq b ds) = true := by cases b <;> rfl
/-- all are so -/
theorem all_map {n : Nat} {f : Nat → Bool} (h : ∀ i, i < n → f i = true) : ((List.range n).map f).all id = true := by
  rw [List.all_map, List.all_eq_true]
  intro x hx
  exact h x (List.mem_range.mp hx)
end
end K31

set_option maxRecDepth 100000
set_option maxHeartbeats 1000000
/-! [e for x in range(n) if t]; fields; makes -/
namespace Kh
open PySem PySem.Spec PyProof.Rows L2
theorem lc_rngF {K : PySem.W.Frag} {S : Addr → Prop} {H : Hp} {σ : L2.St} {te : TE} {tt : TT} {sl : Nat} {vs : List Nat} {Q : VK} {n : Nat} {ta : TA} (pt : Nat → Bool) (f : Nat → PyData) (kn : Kn S H) (hn : n ≤ 100000)
    (hev : ∀ q : List V → Hp → Prop, (∀ H1, Same H H1 → q [.int (n : Nat)] H1) → ta σ H q) (hw : ∀ x, wipe ((wipe σ vs).set sl (some x)) vs = wipe σ vs)
    (test : ∀ j H1 S', j < n → Same H H1 → Kn S' H1 → (∀ a, S a → S' a) → Same (off S H) (off S' H1) → ∀ Q : Bool → Hp → Prop, (∀ H', Same H1 H' → Q (pt j) H') → tt ((wipe σ vs).set sl (some (.int (j : Nat)))) H1 Q)
    (body : ∀ j H1 S', j < n → pt j = true → Same H H1 → Kn S' H1 → (∀ a, S a → S' a) → Same (off S H) (off S' H1) → ∀ Q : VK, (∀ y H', Same H1 H' → Dp K (off S' H') y (f j) → Q y H') → te ((wipe σ vs).set sl (some (.int (j : Nat)))) H1 Q)
    (done : ∀ D H1 ys, H D = none → Same H H1 → H1 D = some (.lst ys) → Dp K (off S H1) (.ref D) (.list (((List.range n).filter pt).map f)) → Q (.ref D) H1) :
    tLc (iRng1 ta) (gName sl) tt te vs σ H Q := by
  refine hev _ fun H0 s0 => ⟨(n : Nat), rfl, by omega, by omega, ?_⟩
  have kn0 := kn.same s0
  intro D hD
  have w : Walk (Itr 0 n) n (fun _ => True) (YFn fun i => .int (0 + i)) := walk_range
  refine lc_filt (Qd := Q (.ref D)) w (fun j x => x = .int (j : Nat)) (fun i H x H' _ y => ⟨y.1, by rw [y.2]; show V.int (0 + _) = _; rw [Int.zero_add]⟩) pt (fun j y H => Dp K (off (plus S D) H) y (f j)) (fun H s => trivial) hD hn hw (fun j y H H' e h => dp_same (off_but e) _ _ h) (fun j x H1 hj xj s hd Q q => ?_) (fun j x H1 hj xj pj s hd Q q => ?_) (fun ys H1 py s hd => ?_)
  · subst xj
    exact test j H1 (plus S D) hj (s0.trans s) ((kn0.same s).plus hd) (fun _ h => .inl h) ((off_same s0).trans (off_plus hD s)) Q q
  · subst xj
    exact body j H1 (plus S D) hj pj (s0.trans s) ((kn0.same s).plus hd) (fun _ h => .inl h) ((off_same s0).trans (off_plus hD s)) Q q
  · refine done D H1 ys (s0.free hD) (s0.trans s) hd (dp_lst (kn0.new hD) hd ?_)
    refine dpa_same (off_fin (D := D)) _ _ ?_
    have go : ∀ {l : List Nat} {ys : List V}, Paired (fun j y => Dp K (off (plus S D) H1) y (f j)) l ys → DpAll K (off (plus S D) H1) ys (l.map f) := by
      intro l ys p
      induction p with
      | nil => exact .nil
      | cons r t ih => exact .cons r ih
    exact go py
section
variable {σ : L2.St} {H : Hp} {Q : VK} {D : Ends} {te ta tb tc : TE} {K : PySem.W.Frag} {sp : Sp} {E : XK} {C : Addr}
theorem s_fld {f : Str} (h : tb σ H fun y H1 => ta σ H1 fun x H2 => ∃ a C dx fs, x = .ref a ∧ H2 a = some (.ins C dx fs) ∧ Cls K C ∧ NoAttr K C f ∧ fs.length < 1000 ∧ D.nx σ (upd H2 a (.ins C dx (putF f y fs)))) : sFld K ta tb f D σ H := h
theorem t_fld {f : Str} (h : ta σ H fun x H1 => ∃ a C dx fs v, x = .ref a ∧ H1 a = some (.ins C dx fs) ∧ Cls K C ∧ NoAttr K C f ∧ fs.lookup f = some v ∧ Q v H1) : tFld K ta f σ H Q := h
theorem t_prop (h : ta σ H fun x H1 => ∃ a dx fs, x = .ref a ∧ H1 a = some (.ins C dx fs) ∧ sp [.ref a] H1 Q E) : tProp C sp [] E ta σ H Q := h
theorem t_meth0 {m : Str} (h : ta σ H fun x H1 => ∃ a dx fs, x = .ref a ∧ H1 a = some (.ins C dx fs) ∧ fs.lookup m = none ∧ sp [x] H1 Q E) : tMeth C m sp [] E ta tNil σ H Q := h
theorem t_meth1 {m : Str} (h : ta σ H fun x H1 => ∃ a dx fs, x = .ref a ∧ H1 a = some (.ins C dx fs) ∧ fs.lookup m = none ∧ tb σ H1 fun y H2 => sp [x, y] H2 Q E) : tMeth C m sp [] E ta (tCons tb tNil) σ H Q := h
theorem t_make1 (h : ta σ H fun y H1 => ∀ x dx, H1 x = none → H1 dx = none → dx ≠ x → sp [.ref x, y] (upd (upd H1 dx (.own x)) x (.ins C dx [])) (fun v H2 => v = .non ∧ Q (.ref x) H2) E) : tMake C sp [] E (tCons ta tNil) σ H Q := h
end
end Kh

set_option maxRecDepth 100000
set_option maxHeartbeats 1000000
/-! x != y where the class has its own == and no own != -/
namespace PySem.W
open PySem PySem.Calls PyProof.Rows Builtin
section
variable {prog : Program} {w : World} {A : Around} {E : Value → Shared → Prop} {s : Shared} {K : Frag} {x C L f : Addr} {h₀ : Heap} {m : Str → Option Value} {ox : Obj} {od : Option Obj} {b tb : Value}
theorem kh_ifBoundB {M : Model} {name : Str} {id : String} {args : List Value} {Q : Option Value → Shared → Prop} (X : K.In s.heap) (I : InstAt s.heap x ox C od) (hs : findIn K (.ref C) name = some (some (.builtin id))) (hb : ∀ self, bindSpecial (.builtin id) self = pure (.builtin id, [self]))
    (h : wpAny M A (call (.builtin id) (.ref x :: args)) (fun v => Q (some v)) E s) : wpAny M A (callSpecialIfBound? (.ref x) name args) Q E s := by
  simp only [callSpecialIfBound?, bindSpecialIfBound?]
  refine wpAny_holding (wpAny_bind (wpAny_bind (wpAny_bind (I.type.here ((looks_findIn X hs).here ?_)))))
  simp only [hb]
  refine wpAny_bind (wpAny_askSetting (wpAny_ite ?_))
  have fin : wpAny M A (call (.builtin id) ([.ref x] ++ args) >>= fun v => pure (some v)) Q E s := wpAny_bind (wpAny_mono h (fun v s' h' => wpAny_pure h') fun _ _ h' => h')
  split
  · exact wpAny_bind (wpAny_pure (wpAny_pure fin))
  · exact wpAny_tryCatch (wpAny_bind (wpAny_pure (wpAny_pure fin)))
theorem kh_check {M : Model} {id owner n : String} {rest : List Value} {Q : Unit → Shared → Prop} (X : K.In s.heap) (I : InstAt s.heap x ox C od) (ho : subIn K (.ref C) (.type owner) = some true) (hk : builtinKind id = some .slot) (hs : splitId id = some (owner, n))
    (ha : argsOk id ⟨.ref x :: rest, []⟩) (hq : Q () s) : wpAny M A (checkBuiltinCall id ⟨.ref x :: rest, []⟩) Q E s := by
  simp only [checkBuiltinCall, hk, hs]
  have S : Looks M s.heap (isInstance (.ref x) (.type owner)) true := (I.type).andThen (looks_subIn X ho)
  refine wpAny_bind (S.here ?_)
  simp only [Bool.not_true, Bool.false_eq_true, if_false]
  cases hsig : Manifest.signature? id with
  | none => first | exact wpAny_pure hq | exact wpAny_bind (wpAny_pure hq)
  | some sig =>
    simp only [argsOk, hsig] at ha
    have h2 : Bind.checkArgs id sig ⟨.ref x :: rest, []⟩ = pure () := ha
    show wpAny M A (Bind.checkArgs id sig ⟨.ref x :: rest, []⟩) Q E _
    rw [h2]; exact wpAny_pure hq
theorem kh_ne {Q : Value → Shared → Prop} (hu : A.units < cLine) (hu1 : A.in1.units < cLine) (F0 : Fr h₀ L s.heap m) (X₀ : K.In h₀) (I : InstAt s.heap x ox C od) (hb : Looks (model prog w) s.heap (typeOf b) tb) (hn : notFirst K C tb = true)
    (hne : findIn K (.ref C) "__ne__" = some (some (.builtin "object.__ne__"))) (ho : subIn K (.ref C) (.type "object") = some true)
    (hs : findIn K (.ref C) "__eq__" = some (some (.ref f))) (hf : isFn K (.ref f) = true)
    (h : wpAny (model prog w) A.in1 (call (.ref f) [.ref x, b]) (fun v s' => ∃ r, v = .bool r ∧ Q (.bool (!r)) s') E s) : wpAny (model prog w) A (richCompare .NotEq (.ref x) b) Q E s := by
  have X := X₀.keeps F0.keep
  have one : wpAny (model prog w) A (tryCompare (.ref x) "__ne__" b) (fun r s' => ∃ v, r = some v ∧ Q v s') E s := by
    unfold tryCompare
    refine wpAny_bind (kh_ifBoundB X I hne F.cmp_object.ne.bind (wpAny_call (codeAny_call_builtin F.cmp_object.ne.plain F.cmpEntry_ne (kh_check X I ho F.cmpKind_ne F.cmpSplit_ne (F.cmpArgs_ne _ _) ?_))))
    unfold Builtin.«object.__ne__»
    repeat (first
      | with_reducible refine wpAny_cRoomFor hu1 ?_
      | (refine wpAny_bind (m := callSpecialIfBound? (.ref x) (Str.ofString "__eq__") [b]) (ifBound_K X I hs hf (wpAny_mono h (fun r s' hr => ?_) fun _ _ e => e)))
      | wp_step)
    obtain ⟨r, rfl, hq⟩ := hr
    repeat (first | exact hq | exact wpAny_pure hq | exact wpAny_truthy_bool hq | (refine wpAny_bind (m := truthy (.bool _)) (wpAny_truthy_bool ?_)) | wp_step)
    all_goals first | exact ⟨_, rfl, hq⟩ | exact wpAny_pure ⟨_, rfl, hq⟩ | skip
  unfold richCompare
  simp only [oneThing_ref]
  refine wpAny_holding (wpAny_bind (wpAny_cRoomFor hu ?_))
  refine wpAny_bind (I.type.here (wpAny_bind (hb.here ?_)))
  rw [cmpInfo_NotEq]
  dsimp only
  split
  · rename_i q
    have e : subIn K tb (.ref C) = some false := by
      rcases Bool.or_eq_true_iff.mp hn with e | e
      · rw [beq_iff_eq.mp e] at q; simp at q
      · exact beq_iff_eq.mp e
    refine wpAny_bind ((looks_subIn X e).here ?_)
    simp only [Bool.false_eq_true, if_false]
    refine wpAny_bind (wpAny_mono one (fun r s' z => ?_) fun _ _ e => e)
    obtain ⟨v, rfl, hq⟩ := z
    exact wpAny_pure hq
  · refine wpAny_bind (wpAny_pure ?_)
    simp only [Bool.false_eq_true, if_false]
    refine wpAny_bind (wpAny_mono one (fun r s' z => ?_) fun _ _ e => e)
    obtain ⟨v, rfl, hq⟩ := z
    exact wpAny_pure hq
end
end PySem.W

set_option maxRecDepth 100000
set_option maxHeartbeats 2000000
/-! own operators of a class; defs whose promise wants that no repr is under way -/
namespace Kh
open PySem PySem.Spec PyProof.Rows L2
/-- a def's promise, where no repr is under way -/
structure FnG (P : Program) (w : World) (K : PySem.W.Frag) (mg : Str → Option Value) (base : Heap) (k : Nat) (f : Addr) (fd : FuncData) (ps : List Str) (sp : Sp) : Prop where
  len : ∀ vs H Q E, sp vs H Q E → vs.length = ps.length
  run : ∀ (A : Around) (outer : List Env) (s : Shared) (H : Hp) (args : Args) (us : List Value) (vs : List V) (Q : VK) (E : XK), A.guards = some [] → Room k A → Env0 P w K mg base A outer s H → BindsTo s fd args (ps.zip us) → Vals vs us → sp vs H Q E →
    codeAny (model P w) A (.call (.ref f) args) (CR CX0 outer P w H s Q E) s
section
variable {P : Program} {w : World} {K : PySem.W.Frag} {mg : Str → Option Value} {base : Heap}
theorem FnG.of {k : Nat} {f : Addr} {fd : FuncData} {ps : List Str} {sp : Sp} (F : FnOk P w K mg base CX0 k f fd ps sp) : FnG P w K mg base k f fd ps sp := ⟨F.len, fun A outer s H args us vs Q E _ => F.run A outer s H args us vs Q E⟩
theorem FnG.mono {j k : Nat} {f : Addr} {fd : FuncData} {ps : List Str} {sp : Sp} (F : FnG P w K mg base j f fd ps sp) (h : j ≤ k) : FnG P w K mg base k f fd ps sp := ⟨F.len, fun A outer s H args us vs Q E hg hr => F.run A outer s H args us vs Q E hg (hr.mono h)⟩
/-- the rule for a def, as Fun.ok -/
theorem fun_okG {x qual : Str} {st : Stmt} {f : Addr} {fd : FuncData} {N ps : List Str} {k : Nat} {sp : Sp} (F : Fun K x qual st f fd) (S : FnScope N ps (defScope st)) (len : ∀ vs H Q E, sp vs H Q E → vs.length = ps.length)
    (hbody : ∀ (cdv : Value) (A : Around) (outer : List Env) (s : Shared) (H : Hp) (vs : List V) (Q : VK) (E : XK), (A.deeper (envOfC qual (defScope st) s.heap.objs.size f cdv)).guards = some [] → Room k (A.deeper (envOfC qual (defScope st) s.heap.objs.size f cdv)) → sp vs H Q E →
      ∃ t, PSs (cxOf CX0 P w K mg base N qual (defScope st) f cdv A outer s H E).nox (defBody st) t ∧ t { nx := fun _ H' => Q .non H', rt := Q } (start N vs) H) : FnG P w K mg base (k + 1) f fd ps sp := by
  obtain ⟨oc, od, kV, doc, pm, an, cdv, ct, osl, rfl, lk, hcd⟩ := F.ex
  refine ⟨len, fun A outer s H args us vs Q E hg hr z0 hb r hsp => ?_⟩
  have hlen := len _ _ _ _ hsp
  have KI : K.In s.heap := z0.mod.kin.keeps fun b o e => (z0.bs b o e).1
  have noL : s.heap.NoLimit := z0.mod.nolimit.keeps fun b o e => (z0.bs b o e).1
  have kinds : ∀ y ∈ ps.zip us, (defScope st).names.lookup y.1 = some .local ∨ ((defScope st).names.lookup y.1 = some .cell ∧ ((cellsFrom (s.heap.objs.size + 1) (defScope st).names []).lookup y.1).isSome = true) := by
    rintro ⟨n, v⟩ hy
    rcases S.par n (List.of_mem_zip hy).1 with c | c
    · exact Or.inl c
    · exact Or.inr ⟨c, PySem.W.cellsFrom_some _ _ _ (Or.inl c)⟩
  refine codeAny_call_function hr.depth (KI _ _ lk) rfl S.co S.gen rfl (PySem.W.codeRec_of KI hcd) (hb _ _ _ _ ?_)
  refine wpAny_newFunctionEnv_cells S.kind kinds fun env ev s1 xc => ?_
  subst ev
  refine ⟨noL.keeps xc.toInCall.keep, codeAny_func ?_⟩
  obtain ⟨t, ht, hq⟩ := hbody cdv A outer s H vs Q E hg (hr.deeper _) hsp
  have start0 : Inv (cxOf CX0 P w K mg base N qual (defScope st) f cdv A outer s H E) [] (start N vs) H s1 := inv_start S hr.hd z0 hlen r xc
  refine wpAny_mono (ht.nox.run [] s1 (start N vs) H _ start0 hq) (fun fl s' hs => ?_) fun e s' hs => hs
  have ended : ∀ {ρ : L2.St} {H2 : Hp} {v : V} {u : Value}, Inv (cxOf CX0 P w K mg base N qual (defScope st) f cdv A outer s H E) [] ρ H2 s' → RelV v u → Q v H2 → CE outer P w H s Q u s' :=
    fun {ρ H2 v u} J rv q => ⟨v, H2, J.os, J.bare, J.base, J.hok, rv, q⟩
  cases fl with
  | ret u =>
    obtain ⟨v, ρ, H2, J, rv, q⟩ := hs
    exact ended J rv q
  | next =>
    obtain ⟨ρ, H2, J, q⟩ := hs
    exact ended (v := V.non) (u := Value.none) J rfl q
  | brk => obtain ⟨_, _, _, q⟩ := hs; exact q.elim
  | cont => obtain ⟨_, _, _, q⟩ := hs; exact q.elim
end
/-- the callee can be run from this body, at every state below it -/
def Runs (X : Cx) (k : Nat) (f : Addr) (sp : Sp) : Prop := ∀ (A : Around) (pins : List (Addr × Obj)) (σ : L2.St) (H : Hp) (s : Shared) (us : List Value) (vs : List V) (Q : VK) (E' : Value → Shared → Prop), A.frames = X.A.frames → A.guards = X.A.guards → Room k A →
  Inv X pins σ H s → Vals vs us → sp vs H Q E0 → wpAny (model X.prog X.w) A (call (.ref f) us) (EP X pins σ Q) E' s
section
variable {X : Cx} {k : Nat} {f : Addr} {fd : FuncData} {ps : List Str} {sp : Sp}
theorem runsG (F : FnG X.prog X.w X.K X.mg X.base k f fd ps sp) (hg : X.A.guards = some []) (hb : Binds X.K fd ps []) : Runs X k f sp := by
  intro A pins σ H s us vs Q E' fr gd hr I r h
  have hl : us.length = ps.length := by rw [← r.length]; exact F.len _ _ _ _ h
  have e0 : Env0 X.prog X.w X.K X.mg X.base A X.stack s H := by
    have e := I.env0
    exact ⟨by rw [fr]; exact e.frames, e.mod, e.bs, e.bsz, e.funs, e.frf, e.hok, e.bare⟩
  refine wpAny_call (codeAny_mono (F.run A X.stack s H ⟨us, []⟩ us vs Q E0 (gd.trans hg) hr e0 (by simpa using hb s us I.kIn (by simpa using hl)) r h) fun r s' hq => ?_)
  cases r with
  | error e => exact (show False from hq).elim
  | ok fl =>
    cases fl with
    | ret w => exact I.after hq
    | next => exact (show False from hq).elim
    | brk => exact (show False from hq).elim
    | cont => exact (show False from hq).elim
theorem runsOk (F : FnOk X.prog X.w X.K X.mg X.base CX0 k f fd ps sp) (hb : Binds X.K fd ps []) : Runs X k f sp := by
  intro A pins σ H s us vs Q E' fr gd hr I r h
  have hl : us.length = ps.length := by rw [← r.length]; exact F.len _ _ _ _ h
  have e0 : Env0 X.prog X.w X.K X.mg X.base A X.stack s H := by
    have e := I.env0
    exact ⟨by rw [fr]; exact e.frames, e.mod, e.bs, e.bsz, e.funs, e.frf, e.hok, e.bare⟩
  refine wpAny_call (codeAny_mono (F.run A X.stack s H ⟨us, []⟩ us vs Q E0 hr e0 (by simpa using hb s us I.kIn (by simpa using hl)) r h) fun r s' hq => ?_)
  cases r with
  | error e => exact (show False from hq).elim
  | ok fl =>
    cases fl with
    | ret w => exact I.after hq
    | next => exact (show False from hq).elim
    | brk => exact (show False from hq).elim
    | cont => exact (show False from hq).elim
theorem Runs.imp {sp' : Sp} (R : Runs X k f sp) (h : ∀ vs H Q, sp' vs H Q E0 → sp vs H Q E0) : Runs X k f sp' := fun A pins σ H s us vs Q E' fr gd hr I r q => R A pins σ H s us vs Q E' fr gd hr I r (h _ _ _ q)
/-- f(..) of such a def -/
theorem pe_callG {p pos : Pos} {x : Str} {e : Expr} {es : List Expr} {t : TA} (R : Runs X k f sp) (hr : Room k X.A) (hg : Gl X x) (hm : X.mg x = some (.ref f)) (hk : PySem.W.keepIn X.K (.ref f) = true) (ha : PA X (e :: es) t)
    (hdb : (x == ("__debug__" : Str)) = false := by decide) (he : starEach (e :: es) X.env = (false, eval e X.env) :: starEach es X.env := by rfl) (hpl : (backTo pos (starEach es X.env)).any (·.1) = false := by rfl) :
    PE X (.Call (.Name x p) (e :: es) [] pos) (tCall sp [] E0 t) := by
  refine ⟨fun pins s σ H Q I h => ?_⟩
  have h' : t σ H fun vs H1 => sp vs H1 Q E0 := by
    have e : (fun (vs : List V) (H1 : Hp) => sp (vs ++ []) H1 Q E0) = fun vs H1 => sp vs H1 Q E0 := by funext vs H1; rw [List.append_nil]
    rw [← e]; exact h
  refine wpAny_Call_Name_kw (ld_glob I hg hm ?_ hdb)
  refine PySem.W.callWith_K (h₀ := X.base) I.ok.mod.kin hk (thn (ha.run pos pins s σ H _ I h') fun us s1 ⟨vs, H1, I1, r, q⟩ => ⟨I1.kIn, ?_⟩) he hpl
  exact R X.A pins σ H1 s1 us vs Q X.xe rfl rfl hr I1 r q
/-! own operators -/
def isI (H : Hp) (C : Addr) (x : V) : Prop := ∃ a dx fs, x = .ref a ∧ H a = some (.ins C dx fs)
def rLenI (C : Addr) (sp : Sp) : List V → Hp → VK → Prop := fun xs H Q => ∃ x, xs = [x] ∧ isI H C x ∧ sp [x] H (fun v H' => ∃ n : Nat, v = .int n ∧ n < 2 ^ 62 ∧ Q (.int n) H') E0
theorem call_lenI {C : Addr} (R : Runs X k f sp) (hr : Room (k + 1) X.A) (M : Meth X.K C "__len__" f) : CallR X (.builtin "len") (rLenI C sp) := by
  intro pins s σ H xs us Q I r h
  obtain ⟨_, rfl, ⟨a, dx, fs, rfl, ha⟩, hs⟩ := h
  obtain ⟨u, rfl, ru⟩ := r.one
  cases ru
  obtain ⟨mA, J, _⟩ := ins_get I.hok ha
  obtain ⟨od, J, _⟩ := J.look
  obtain ⟨m, hF⟩ := I.fr
  refine PySem.W.len_K hF I.ok.mod.kin J M.at_ M.fn (wpAny_mono (R X.A.in1 pins σ H s [.ref a] [.ref a] _ X.xe rfl rfl hr.in1 I (.cons rfl .nil) hs) (fun r s' q => ?_) fun _ _ z => z)
  obtain ⟨v, H', I', rv, n, rfl, hn, q⟩ := q
  obtain ⟨tk, rfl⟩ := rv
  exact ⟨⟨by omega, by omega⟩, .int n, H', I'.tok _, ⟨_, rfl⟩, q⟩
def rInI (C : Addr) (sp : Sp) : R2 := fun x y H Q => isI H C y ∧ sp [y, x] H (fun v H' => ∃ b, v = .bl b ∧ Q (.bl b) H') E0
theorem op_inI {C : Addr} (R : Runs X k f sp) (hr : Room k X.A) (M : Meth X.K C "__contains__" f) : OpR X (compareOp .In) (rInI C sp) := by
  intro pins s σ H x y v u Q I rx ry h
  obtain ⟨⟨a, dx, fs, rfl, ha⟩, hs⟩ := h
  cases ry
  obtain ⟨mA, J, _⟩ := ins_get I.hok ha
  obtain ⟨od, J, _⟩ := J.look
  obtain ⟨m, hF⟩ := I.fr
  refine PySem.W.in_K hF I.ok.mod.kin J M.at_ M.fn (wpAny_mono (R X.A pins σ H s [.ref a, v] [.ref a, x] _ X.xe rfl rfl hr I (.cons rfl (.cons rx .nil)) hs) (fun r s' q => ?_) fun _ _ z => z)
  obtain ⟨z, H', I', rv, b, rfl, q⟩ := q
  cases rv
  exact wpAny_truthy_bool ⟨.bl b, H', I', rfl, q⟩
def rUnI (C : Addr) (sp : Sp) : V → Hp → VK → Prop := fun x H Q => isI H C x ∧ sp [x] H Q E0
theorem un_invI {C : Addr} (R : Runs X k f sp) (hr : Room k X.A) (M : Meth X.K C "__invert__" f) : UnR X (unaryOp .Invert) (rUnI C sp) := by
  intro pins s σ H x v Q I rx h
  obtain ⟨⟨a, dx, fs, rfl, ha⟩, hs⟩ := h
  cases rx
  obtain ⟨mA, J, _⟩ := ins_get I.hok ha
  obtain ⟨od, J, _⟩ := J.look
  obtain ⟨m, hF⟩ := I.fr
  exact PySem.W.ksp_inv hF I.ok.mod.kin J M.at_ M.fn (R X.A pins σ H s [.ref a] [.ref a] _ X.xe rfl rfl hr I (.cons rfl .nil) hs)
def notNI : V → Prop := fun _ => True
/-- an operator of two objects of the class -/
def rBinI (C : Addr) (sp : Sp) : R2 := fun x y H Q => isI H C x ∧ isI H C y ∧ sp [x, y] H Q E0
theorem back_of {Q : VK} {pins : List (Addr × Obj)} {σ : L2.St} {v : Value} {s' : Shared} (h : EP X pins σ Q v s') : PySem.W.CmpBack (EP X pins σ Q) v s' := by
  cases v <;> first | exact h | skip
  obtain ⟨v, H', I', rv, q⟩ := h
  cases v <;> first | (cases rv; done) | (obtain ⟨_, rv⟩ := rv; cases rv; done) | (exact (nomatch rv))
theorem op_binI {C : Addr} {op : Operator} (R : Runs X k f sp) (hr : Room k X.A) (hc : PySem.W.selfFirst X.K C = true) (M : Meth X.K C (PySem.dunder op.info.2) f) : OpR X (binaryOp op) (rBinI C sp) := by
  intro pins s σ H x y v u Q I rx ry h
  obtain ⟨⟨a, dx, fs, rfl, ha⟩, ⟨b, dy, gs, rfl, hb⟩, hs⟩ := h
  cases rx
  cases ry
  obtain ⟨mA, J, _⟩ := ins_get I.hok ha
  obtain ⟨od, J, _⟩ := J.look
  obtain ⟨mB, J2, _⟩ := ins_get I.hok hb
  obtain ⟨od2, J2, _⟩ := J2.look
  obtain ⟨m, hF⟩ := I.fr
  exact PySem.W.binop_K hF I.ok.mod.kin J J2.type hc M.at_ M.fn (wpAny_mono (R X.A pins σ H s [.ref a, .ref b] [.ref a, .ref b] _ X.xe rfl rfl hr I (.cons rfl (.cons rfl .nil)) hs) (fun r s' q => back_of q) fun _ _ z => z)
/-- an own ==: the other one of any type that is told -/
def tyOk (K : PySem.W.Frag) (H : Hp) (C : Addr) (y : V) : Prop := isI H C y ∨ (∃ n, TyX K H y (.type n) ∧ PySem.W.notFirst K C (.type n) = true)
theorem looks_ty {C : Addr} {pins : List (Addr × Obj)} {σ : L2.St} {H : Hp} {s : Shared} {y : V} {u : Value} (I : Inv X pins σ H s) (ry : RelV y u) (h : tyOk X.K H C y) : ∃ tb, PySem.W.Looks (model X.prog X.w) s.heap (typeOf u) tb ∧ PySem.W.notFirst X.K C tb = true := by
  rcases h with ⟨b, dy, gs, rfl, hb⟩ | ⟨n, ty, hn⟩
  · cases ry
    obtain ⟨mB, J2, _⟩ := ins_get I.hok hb
    obtain ⟨od2, J2, _⟩ := J2.look
    exact ⟨.ref C, J2.type, by simp [PySem.W.notFirst]⟩
  · obtain ⟨P, Z, p, _⟩ := kit_of I ry ty
    exact ⟨.type n, Z.ty _ _ I.kIn p, hn⟩
def rEqI (C : Addr) (K : PySem.W.Frag) (sp : Sp) : R2 := fun x y H Q => isI H C x ∧ tyOk K H C y ∧ sp [x, y] H Q E0
theorem op_eqI {C : Addr} (R : Runs X k f sp) (hr : Room k X.A) (M : Meth X.K C "__eq__" f) : OpR X (compareOp .Eq) (rEqI C X.K sp) := by
  intro pins s σ H x y v u Q I rx ry h
  obtain ⟨⟨a, dx, fs, rfl, ha⟩, ty, hs⟩ := h
  cases rx
  obtain ⟨mA, J, _⟩ := ins_get I.hok ha
  obtain ⟨od, J, _⟩ := J.look
  obtain ⟨m, hF⟩ := I.fr
  obtain ⟨tb, hb, hn⟩ := looks_ty I ry ty
  exact PySem.W.cmp_K (op := .Eq) hr.units0 hF I.ok.mod.kin J hb hn M.at_ M.fn (wpAny_mono (R X.A pins σ H s [.ref a, u] [.ref a, y] _ X.xe rfl rfl hr I (.cons rfl (.cons ry .nil)) hs) (fun r s' q => back_of q) fun _ _ z => z)
def rNeI (C : Addr) (K : PySem.W.Frag) (sp : Sp) : R2 := fun x y H Q => isI H C x ∧ tyOk K H C y ∧ sp [x, y] H (fun v H' => ∃ b, v = .bl b ∧ Q (.bl (!b)) H') E0
theorem op_neI {C : Addr} (R : Runs X k f sp) (hr : Room (k + 1) X.A) (M : Meth X.K C "__eq__" f) (hne : PySem.W.findIn X.K (.ref C) "__ne__" = some (some (.builtin "object.__ne__"))) (ho : PySem.W.subIn X.K (.ref C) (.type "object") = some true) :
    OpR X (compareOp .NotEq) (rNeI C X.K sp) := by
  intro pins s σ H x y v u Q I rx ry h
  obtain ⟨⟨a, dx, fs, rfl, ha⟩, ty, hs⟩ := h
  cases rx
  obtain ⟨mA, J, _⟩ := ins_get I.hok ha
  obtain ⟨od, J, _⟩ := J.look
  obtain ⟨m, hF⟩ := I.fr
  obtain ⟨tb, hb, hn⟩ := looks_ty I ry ty
  refine PySem.W.kh_ne hr.units0 hr.in1.units0 hF I.ok.mod.kin J hb hn hne ho M.at_ M.fn (wpAny_mono (R X.A.in1 pins σ H s [.ref a, u] [.ref a, y] _ X.xe rfl rfl hr.in1 I (.cons rfl (.cons ry .nil)) hs) (fun r s' q => ?_) fun _ _ z => z)
  obtain ⟨z, H', I', rv, b, rfl, q⟩ := q
  cases rv
  exact ⟨b, rfl, .bl (!b), H', I', rfl, q⟩
def rReprI (C : Addr) (sp : Sp) : List V → Hp → VK → Prop := fun xs H Q => ∃ x, xs = [x] ∧ isI H C x ∧ sp [x] H (fun v H' => ∃ y, v = .str y ∧ Q (.str y) H') E0
theorem call_reprI {C : Addr} (R : Runs X k f sp) (hr : Room (k + 1) X.A) (M : Meth X.K C "__repr__" f) : CallR X (.builtin "repr") (rReprI C sp) := by
  intro pins s σ H xs us Q I r h
  obtain ⟨_, rfl, ⟨a, dx, fs, rfl, ha⟩, hs⟩ := h
  obtain ⟨u, rfl, ru⟩ := r.one
  cases ru
  obtain ⟨mA, J, _⟩ := ins_get I.hok ha
  obtain ⟨od, J, _⟩ := J.look
  obtain ⟨m, hF⟩ := I.fr
  refine PySem.W.repr_K hr.in1.units0 hF I.ok.mod.kin J M.at_ M.fn (wpAny_mono (R X.A.in1 pins σ H s [.ref a] [.ref a] _ X.xe rfl rfl hr.in1 I (.cons rfl .nil) hs) (fun r s' q => ?_) fun _ _ z => z)
  obtain ⟨v, H', I', rv, n, rfl, q⟩ := q
  obtain ⟨tk, rfl⟩ := rv
  exact ⟨.str n, H', I', ⟨_, rfl⟩, q⟩
end
end Kh

set_option maxRecDepth 100000
set_option maxHeartbeats 2000000
/-! data that can be told and compared -/
namespace Kh
open PySem PySem.Spec PyProof.Rows L2
/-- short, not deep, no dict -/
structure Nice (n m : Nat) (d : PyData) : Prop where
  sh : d.leavesShort 8 = true
  wt : d.weight ≤ n
  dp : d.depth ≤ m
  sw : d.showable = true
  nd : d.hasDict = false
  cl : d.canLay0 = true
structure NiceA (n m : Nat) (ds : List PyData) : Prop where
  sh : PyData.leavesShortAll 8 ds = true
  wt : PyData.weightAll ds ≤ n
  dp : PyData.depthAll ds ≤ m
  sw : PyData.showableAll ds = true
  nd : PyData.hasDictAll ds = false
  cl : PyData.canLayAll0 ds = true
theorem Nice.mono {n m n' m' : Nat} {d : PyData} (h : Nice n m d) (hn : n ≤ n') (hm : m ≤ m') : Nice n' m' d := ⟨h.sh, Nat.le_trans h.wt hn, Nat.le_trans h.dp hm, h.sw, h.nd, h.cl⟩
theorem NiceA.mono {n m n' m' : Nat} {d : List PyData} (h : NiceA n m d) (hn : n ≤ n') (hm : m ≤ m') : NiceA n' m' d := ⟨h.sh, Nat.le_trans h.wt hn, Nat.le_trans h.dp hm, h.sw, h.nd, h.cl⟩
theorem nice_none : Nice 0 0 .none := ⟨by simp [PyData.leavesShort], by simp [PyData.weight], by simp [PyData.depth], by simp [PyData.showable], by simp [PyData.hasDict], by simp [PyData.canLay0]⟩
theorem nice_bool (b : Bool) : Nice 0 0 (.bool b) := ⟨by simp [PyData.leavesShort], by simp [PyData.weight], by simp [PyData.depth], by simp [PyData.showable], by simp [PyData.hasDict], by simp [PyData.canLay0]⟩
def smallI (n : Nat) : Bool := decide ((PyData.shown (.int (n : Nat))).length ≤ 8) && (PyData.shown (.int (n : Nat))).cps.toList.all (fun c => decide (c < 1114112)) && decide (((n : Nat) : Int).natAbs.log2 < 100)
theorem small_all : ((List.range 256).all smallI) = true := by decide +kernel
theorem small_one {n : Nat} (h : n < 256) : smallI n = true := (List.all_eq_true.mp small_all) n (List.mem_range.mpr h)
theorem nice_int {n : Nat} (h : n < 256) : Nice 100 0 (.int (n : Nat)) := by
  have q := small_one h
  unfold smallI at q
  obtain ⟨q1, q3⟩ := Bool.and_eq_true_iff.mp q
  obtain ⟨q1, q2⟩ := Bool.and_eq_true_iff.mp q1
  have q3 := of_decide_eq_true q3
  refine ⟨by rw [PyData.leavesShort]; exact q1, ?_, by simp [PyData.depth], ?_, by simp [PyData.hasDict], by simp [PyData.canLay0]⟩
  · rw [PyData.weight]; split <;> omega
  · rw [PyData.showable]; exact decide_eq_true (Nat.lt_of_lt_of_le q3 (by decide))
theorem nice_str {x : Str} {n : Nat} (h1 : ∀ c ∈ x.cps.toList, c < 1114112) (h2 : x.cps.size ≤ n) (h3 : PyData.strOk x = true) : Nice n 0 (.str x) :=
  ⟨by rw [PyData.leavesShort, List.all_eq_true]; exact fun c hc => decide_eq_true (Nat.lt_of_lt_of_le (h1 c hc) (by decide)), by rw [PyData.weight]; exact h2, by simp [PyData.depth], by simp [PyData.showable], by simp [PyData.hasDict], by rw [PyData.canLay0]; exact h3⟩
theorem niceA_nil : NiceA 0 0 [] := ⟨by simp [PyData.leavesShortAll], by simp [PyData.weightAll], by simp [PyData.depthAll], by simp [PyData.showableAll], by simp [PyData.hasDictAll], by simp [PyData.canLayAll0]⟩
theorem niceA_cons {n n' m : Nat} {d : PyData} {ds : List PyData} (h : Nice n m d) (t : NiceA n' m ds) : NiceA (n + 1 + n') m (d :: ds) := by
  refine ⟨?_, ?_, ?_, ?_, ?_, ?_⟩
  · rw [PyData.leavesShortAll, h.sh, t.sh]; rfl
  · rw [PyData.weightAll]; have := h.wt; have := t.wt; omega
  · rw [PyData.depthAll]; exact Nat.max_le.mpr ⟨h.dp, t.dp⟩
  · rw [PyData.showableAll, h.sw, t.sw]; rfl
  · rw [PyData.hasDictAll, h.nd, t.nd]; rfl
  · rw [PyData.canLayAll0, h.cl, t.cl]; rfl
theorem nice_list {n m : Nat} {ds : List PyData} (h : NiceA n m ds) : Nice n (m + 1) (.list ds) :=
  ⟨by rw [PyData.leavesShort]; exact h.sh, by rw [PyData.weight]; exact h.wt, by rw [PyData.depth]; exact Nat.succ_le_succ h.dp, by rw [PyData.showable]; exact h.sw, by rw [PyData.hasDict]; exact h.nd, by rw [PyData.canLay0]; exact h.cl⟩
theorem nice_tup {n m : Nat} {ds : List PyData} (h : NiceA n m ds) : Nice n (m + 1) (.tuple ds) :=
  ⟨by rw [PyData.leavesShort]; exact h.sh, by rw [PyData.weight]; exact h.wt, by rw [PyData.depth]; exact Nat.succ_le_succ h.dp, by rw [PyData.showable]; exact h.sw, by rw [PyData.hasDict]; exact h.nd, by rw [PyData.canLay0]; exact h.cl⟩
theorem nice_sq {n m : Nat} {b : Bool} {ds : List PyData} (h : NiceA n m ds) : Nice n (m + 1) (sq b ds) := by
  cases b with
  | true => exact nice_tup h
  | false => exact nice_list h
theorem niceA_map {α : Type} {f : α → PyData} {g : α → Nat} {m : Nat} : ∀ l : List α, (∀ x ∈ l, Nice (g x) m (f x)) → NiceA ((l.map fun x => g x + 1).sum) m (l.map f)
  | [], _ => niceA_nil.mono (Nat.le_refl _) (Nat.zero_le _)
  | x :: l, h => by
    have h1 := niceA_cons (h x List.mem_cons_self) (niceA_map l fun y hy => h y (List.mem_cons_of_mem _ hy))
    rw [List.map_cons, List.map_cons, List.sum_cons]; exact h1
theorem Nice.fits {n m : Nat} {d : PyData} (h : Nice n m d) (hn : n ≤ 1000000) : d.shown.length ≤ sizeLine := PyData.shown_fits (B := 8) (by decide) (by decide) h.sh (Nat.le_trans h.wt (Nat.le_trans hn (by decide)))
theorem Nice.shaped {n m : Nat} {d : PyData} (h : Nice n m d) (hm : m ≤ 64) : SeqAt.shaped d = true := by
  unfold SeqAt.shaped
  rw [h.cl, decide_eq_true (Nat.le_trans h.dp hm)]; rfl
/-- trees -/
theorem nice_tree : ∀ (t : T) (d : Nat), Wf t → (∀ n ∈ lv t, n < 24) → dep t ≤ d → (lv t).length ≤ 100 → Nice (siz t * 300) (2 * d) (tD t) := by
  intro t
  refine T.ind (P := fun t => ∀ d, Wf t → (∀ n ∈ lv t, n < 24) → dep t ≤ d → (lv t).length ≤ 100 → Nice (siz t * 300) (2 * d) (tD t)) (fun n d wf _ _ _ => ?_) (fun b k ps ih d wf hl dp hlen => ?_) t
  · rw [tD_leaf]
    have : n < 24 := by rw [Wf] at wf; exact wf
    exact (nice_int (by omega)).mono (by rw [siz]; omega) (Nat.zero_le _)
  · cases d with
    | zero => exact absurd dp (dep_gate0 b k ps)
    | succ d =>
      obtain ⟨k1, k2, wfs⟩ := (wf_gate b k ps).mp wf
      have dps := (dep_gate b k ps).mp dp
      rw [lv_gate] at hl hlen
      have lp : ∀ p ∈ ps, ∀ n ∈ lv p, n ∈ ps.flatMap lv := fun p hp n hn => List.mem_flatMap.mpr ⟨p, hp, hn⟩
      have ll : ∀ p ∈ ps, (lv p).length ≤ (ps.flatMap lv).length := fun p hp => by
        obtain ⟨s, t, rfl⟩ := List.append_of_mem hp
        rw [List.flatMap_append, List.flatMap_cons, List.length_append, List.length_append]; omega
      have pos : ∀ t, Wf t → 1 ≤ (lv t).length := T.ind (fun n _ => by rw [lv_leaf]; exact Nat.le_refl _) fun b k ps ih h => by
        obtain ⟨h1, h2, h3⟩ := (wf_gate b k ps).mp h
        cases ps with
        | nil => simp at h2; omega
        | cons p r =>
          rw [lv_gate, List.flatMap_cons, List.length_append]
          have := ih p List.mem_cons_self (h3 p List.mem_cons_self)
          omega
      have len : ∀ qs : List T, (∀ p ∈ qs, p ∈ ps) → qs.length ≤ (qs.flatMap lv).length := by
        intro qs
        induction qs with
        | nil => intro _; exact Nat.zero_le _
        | cons p r ih2 =>
          intro hq
          rw [List.flatMap_cons, List.length_append, List.length_cons]
          have h1 := pos p (wfs p (hq p List.mem_cons_self))
          have h2 := ih2 fun q h => hq q (List.mem_cons_of_mem _ h)
          omega
      have hlen2 := len ps fun p h => h
      have sumE : ∀ qs : List T, (qs.map fun x => siz x * 300 + 1).sum = sizs qs * 300 + qs.length := by
        intro qs
        induction qs with
        | nil => simp [sizs]
        | cons p r ih2 => rw [List.map_cons, List.sum_cons, ih2, sizs, List.length_cons, Nat.add_mul]; omega
      have parts := niceA_map (f := tD) (g := fun p => siz p * 300) (m := 2 * d) ps fun p hp => ih p hp d (wfs p hp) (fun n hn => hl n (lp p hp n hn)) (dps p hp) (Nat.le_trans (ll p hp) hlen)
      rw [sumE] at parts
      rw [tD_gate]
      have h1 := (nice_str (x := "of") (n := 2) (by decide) (by decide) (by decide +kernel)).mono (Nat.le_refl 2) (Nat.zero_le (2 * d + 1))
      have h2 := (nice_int (n := k) (by omega)).mono (Nat.le_refl 100) (Nat.zero_le (2 * d + 1))
      have all := niceA_cons h1 (niceA_cons h2 (niceA_cons (nice_sq (b := b) parts) (niceA_nil.mono (Nat.le_refl 0) (Nat.zero_le (2 * d + 1)))))
      have e : siz (.gate b k ps) = 1 + sizs ps := by rw [siz]
      refine (nice_tup all).mono ?_ (by omega)
      rw [e]; omega
/-! what is told has ordinary signs -/
def okS (x : Str) : Prop := ∀ c ∈ x.cps.toList, c < 1114112
theorem okS_ok {x : Str} (h : okS x) : PyData.strOk x = true := by
  unfold PyData.strOk
  rw [Array.all_eq_true]
  intro i hi
  exact decide_eq_true (h _ (by rw [← Array.getElem_toList hi]; exact List.getElem_mem _))
theorem nice_okS {x : Str} {n : Nat} (h : okS x) (h2 : x.cps.size ≤ n) : Nice n 0 (.str x) := nice_str h h2 (okS_ok h)
theorem okS_app {x y : Str} (h : okS x) (g : okS y) : okS (x ++ y) := fun c hc => by
  rw [show (x ++ y).cps = x.cps ++ y.cps from rfl, Array.toList_append] at hc
  rcases List.mem_append.mp hc with hc | hc
  · exact h c hc
  · exact g c hc
theorem okS_from : ∀ (ts : List Str) (k : Nat) (acc : Str), okS acc → (∀ t ∈ ts, okS t) → okS (textFrom k acc ts)
  | [], _, _, h, _ => h
  | t :: ts, k, acc, h, g => by
    refine okS_from ts (k + 1) _ (okS_app (okS_app h ?_) (g t List.mem_cons_self)) fun u hu => g u (List.mem_cons_of_mem _ hu)
    split
    · show okS ", "; exact (by unfold okS; decide)
    · show okS ""; exact (by unfold okS; decide)
theorem okS_join : ∀ (ts : List Str), (∀ t ∈ ts, okS t) → okS (Str.join ", " ts)
  | [], _ => by unfold okS; decide
  | [x], h => h x List.mem_cons_self
  | x :: y :: r, h => by
    show okS (x ++ (", " : Str) ++ Str.join ", " (y :: r))
    exact okS_app (okS_app (h x List.mem_cons_self) (by unfold okS; decide)) (okS_join (y :: r) fun u hu => h u (List.mem_cons_of_mem _ hu))
theorem okS_list {ts : List Str} (h : ∀ t ∈ ts, okS t) : okS (listText ts) := okS_app (okS_from ts 0 _ (by unfold okS; decide) h) (by unfold okS; decide)
theorem okS_tup {ts : List Str} (h : ∀ t ∈ ts, okS t) : okS (tupleText ts) := by
  unfold tupleText
  refine okS_app (okS_app (by unfold okS; decide) (okS_join ts h)) ?_
  split
  · show okS ",)"; unfold okS; decide
  · show okS ")"; unfold okS; decide
theorem shownAll_mem : ∀ {ds : List PyData} {x : Str}, x ∈ PyData.shownAll ds → ∃ d ∈ ds, x = PyData.shown d
  | [], _, h => by rw [PyData.shownAll] at h; cases h
  | d :: ds, x, h => by
    rw [PyData.shownAll] at h
    rcases List.mem_cons.mp h with rfl | h
    · exact ⟨d, List.mem_cons_self, rfl⟩
    · obtain ⟨e, he, rfl⟩ := shownAll_mem h
      exact ⟨e, List.mem_cons_of_mem _ he, rfl⟩
theorem okS_int {n : Nat} (h : n < 256) : okS (PyData.shown (.int (n : Nat))) := by
  have q := small_one h
  unfold smallI at q
  obtain ⟨q1, q3⟩ := Bool.and_eq_true_iff.mp q
  obtain ⟨q1, q2⟩ := Bool.and_eq_true_iff.mp q1
  exact fun c hc => of_decide_eq_true (List.all_eq_true.mp q2 c hc)
theorem tpos : ∀ t, Wf t → 1 ≤ (lv t).length := T.ind (fun n _ => by rw [lv_leaf]; exact Nat.le_refl _) fun b k ps ih h => by
  obtain ⟨h1, h2, h3⟩ := (wf_gate b k ps).mp h
  cases ps with
  | nil => simp at h2; omega
  | cons p r =>
    rw [lv_gate, List.flatMap_cons, List.length_append]
    have := ih p List.mem_cons_self (h3 p List.mem_cons_self)
    omega
theorem tlen : ∀ ps : List T, (∀ p ∈ ps, Wf p) → ps.length ≤ (ps.flatMap lv).length
  | [], _ => Nat.zero_le _
  | p :: r, h => by
    rw [List.flatMap_cons, List.length_append, List.length_cons]
    have h1 := tpos p (h p List.mem_cons_self)
    have h2 := tlen r fun q hq => h q (List.mem_cons_of_mem _ hq)
    omega
theorem tpart {ps : List T} {p : T} (hp : p ∈ ps) : (lv p).length ≤ (ps.flatMap lv).length := by
  obtain ⟨s, t, rfl⟩ := List.append_of_mem hp
  rw [List.flatMap_append, List.flatMap_cons, List.length_append, List.length_append]; omega
theorem okS_tree : ∀ t : T, Wf t → (lv t).length ≤ 100 → okS (PyData.shown (tD t)) := by
  intro t
  refine T.ind (P := fun t => Wf t → (lv t).length ≤ 100 → okS (PyData.shown (tD t))) (fun n wf _ => ?_) (fun b k ps ih wf hlen => ?_) t
  · rw [tD_leaf]
    have : n < 24 := by rw [Wf] at wf; exact wf
    exact okS_int (by omega)
  · obtain ⟨k1, k2, wfs⟩ := (wf_gate b k ps).mp wf
    rw [lv_gate] at hlen
    have hl := tlen ps wfs
    have parts : ∀ x ∈ PyData.shownAll (ps.map tD), okS x := fun x hx => by
      obtain ⟨d, hd, rfl⟩ := shownAll_mem hx
      obtain ⟨p, hp, rfl⟩ := List.mem_map.mp hd
      exact ih p hp (wfs p hp) (Nat.le_trans (tpart hp) hlen)
    rw [tD_gate, PyData.shown]
    refine okS_tup fun x hx => ?_
    obtain ⟨d, hd, rfl⟩ := shownAll_mem hx
    rcases List.mem_cons.mp hd with rfl | hd
    · rw [PyData.shown]; unfold okS; decide +kernel
    rcases List.mem_cons.mp hd with rfl | hd
    · exact okS_int (by omega)
    rcases List.mem_cons.mp hd with rfl | hd
    · cases b with
      | true => show okS (PyData.shown (.tuple _)); rw [PyData.shown]; exact okS_tup parts
      | false => show okS (PyData.shown (.list _)); rw [PyData.shown]; exact okS_list parts
    · cases hd
/-! equal data of trees -/
theorem eqvAll_refl : ∀ {ds : List PyData}, (∀ d ∈ ds, PyData.eqv d d = true) → PyData.eqvAll ds ds = true
  | [], _ => by rw [PyData.eqvAll]
  | d :: ds, h => by rw [PyData.eqvAll, h d List.mem_cons_self, eqvAll_refl fun e he => h e (List.mem_cons_of_mem _ he)]; rfl
theorem eqv_int (i : Int) : PyData.eqv (.int i) (.int i) = true := by rw [PyData.eqv]; exact beq_self_eq_true i
theorem eqv_str (x : Str) : PyData.eqv (.str x) (.str x) = true := by rw [PyData.eqv]; exact beq_self_eq_true x
theorem eqv_bool (b : Bool) : PyData.eqv (.bool b) (.bool b) = true := by rw [PyData.eqv]; exact beq_self_eq_true b
theorem eqv_list {ds : List PyData} (h : ∀ d ∈ ds, PyData.eqv d d = true) : PyData.eqv (.list ds) (.list ds) = true := by rw [PyData.eqv]; exact eqvAll_refl h
theorem eqv_tup {ds : List PyData} (h : ∀ d ∈ ds, PyData.eqv d d = true) : PyData.eqv (.tuple ds) (.tuple ds) = true := by rw [PyData.eqv]; exact eqvAll_refl h
theorem eqv_tree : ∀ t : T, PyData.eqv (tD t) (tD t) = true := T.ind (fun n => by rw [tD_leaf]; exact eqv_int _) fun b k ps ih => by
  have parts : ∀ d ∈ ps.map tD, PyData.eqv d d = true := fun d hd => by
    obtain ⟨p, hp, rfl⟩ := List.mem_map.mp hd
    exact ih p hp
  rw [tD_gate]
  refine eqv_tup fun d hd => ?_
  rcases List.mem_cons.mp hd with rfl | hd
  · exact eqv_str _
  rcases List.mem_cons.mp hd with rfl | hd
  · exact eqv_int _
  rcases List.mem_cons.mp hd with rfl | hd
  · cases b with
    | true => exact eqv_tup parts
    | false => exact eqv_list parts
  · cases hd
/-- trees that are equal are the same -/
theorem eqv_same : ∀ t u : T, PyData.eqv (tD t) (tD u) = true → t = u := by
  intro t
  refine T.ind (P := fun t => ∀ u, PyData.eqv (tD t) (tD u) = true → t = u) (fun n u h => ?_) (fun b k ps ih u h => ?_) t
  · cases u with
    | leaf m =>
      rw [tD_leaf, tD_leaf, PyData.eqv] at h
      have := beq_iff_eq.mp h
      rw [show n = m by omega]
    | gate b k ps => rw [tD_leaf, tD_gate, PyData.eqv] at h; cases h
  · cases u with
    | leaf m => rw [tD_leaf, tD_gate, PyData.eqv] at h; cases h
    | gate c l qs =>
      rw [tD_gate, tD_gate, PyData.eqv, PyData.eqvAll, PyData.eqvAll, PyData.eqvAll] at h
      obtain ⟨_, h⟩ := Bool.and_eq_true_iff.mp h
      obtain ⟨h1, h⟩ := Bool.and_eq_true_iff.mp h
      obtain ⟨h2, _⟩ := Bool.and_eq_true_iff.mp h
      rw [PyData.eqv] at h1
      have e1 : k = l := by have := beq_iff_eq.mp h1; omega
      have go : ∀ xs ys : List T, (∀ p ∈ xs, ∀ u, PyData.eqv (tD p) (tD u) = true → p = u) → PyData.eqvAll (xs.map tD) (ys.map tD) = true → xs = ys := by
        intro xs
        induction xs with
        | nil =>
          intro ys _ h
          cases ys with
          | nil => rfl
          | cons y ys => rw [List.map_nil, List.map_cons, PyData.eqvAll] at h; cases h
        | cons x xs ih2 =>
          intro ys hx h
          cases ys with
          | nil => rw [List.map_nil, List.map_cons, PyData.eqvAll] at h; cases h
          | cons y ys =>
            rw [List.map_cons, List.map_cons, PyData.eqvAll] at h
            obtain ⟨g1, g2⟩ := Bool.and_eq_true_iff.mp h
            rw [hx x List.mem_cons_self y g1, ih2 ys (fun p hp => hx p (List.mem_cons_of_mem _ hp)) g2]
      cases b with
      | true =>
        cases c with
        | true =>
          have h2' : PyData.eqv (.tuple (ps.map tD)) (.tuple (qs.map tD)) = true := h2
          rw [PyData.eqv] at h2'
          rw [e1, go ps qs ih h2']
        | false =>
          have h2' : PyData.eqv (.tuple (ps.map tD)) (.list (qs.map tD)) = true := h2
          rw [PyData.eqv] at h2'; cases h2'
      | false =>
        cases c with
        | true =>
          have h2' : PyData.eqv (.list (ps.map tD)) (.tuple (qs.map tD)) = true := h2
          rw [PyData.eqv] at h2'; cases h2'
        | false =>
          have h2' : PyData.eqv (.list (ps.map tD)) (.list (qs.map tD)) = true := h2
          rw [PyData.eqv] at h2'
          rw [e1, go ps qs ih h2']
open Classical in
noncomputable def sameT (t u : T) : Bool := decide (t = u)
open Classical in
theorem eqv_sameT (t u : T) : PyData.eqv (tD t) (tD u) = sameT t u := by
  unfold sameT
  by_cases q : t = u
  · subst q; rw [eqv_tree, decide_eq_true rfl]
  · rw [decide_eq_false q]
    cases h : PyData.eqv (tD t) (tD u) with
    | false => rfl
    | true => exact (q (eqv_same t u h)).elim
end Kh

set_option maxRecDepth 100000
set_option maxHeartbeats 4000000
/-! set(list of whole numbers), sorted(set(..)), len(set(..)) -/
namespace Kh
open PySem PySem.Spec PyProof.Rows L2
section
variable {P : Program} {w : World} {B : Around} {X0 : Value → Shared → Prop} {z : Shared}
/-- set(l), l a list of whole numbers -/
theorem set_of_list {l : Addr} {js : Array Value} (ks : List Int) {R0 : Value → Shared → Prop} (nh : B.handled = none) (isl : z.heap.IsList l js) (insA : IntsAre js.toList ks) (few : ks.length + 1 < scanBound)
    (fin : ∀ (g1 : Heap) (tk c : Nat), SetR w g1 z.heap.objs.size (fun j => decide (j ∈ ks)) c → c ≤ ks.length → (∀ b o, z.heap.get? b = some o → g1.get? b = some o) → R0 (.ref z.heap.objs.size) { z with heap := g1, toks := tk }) :
    wpAny (model P w) B (call (.type "set") [.ref l]) R0 X0 z := by
  have jl : js.size = ks.length := by
    have q := IntsAre.length insA
    rwa [Array.length_toList] at q
  obtain ⟨_, _, hmro⟩ := F.called_set.mro
  have m1 := F.called_set.made
  have m2 := F.called_set.sub
  refine wpAny_call (codeAny_of_tree ?_)
  show wpAny _ _ (callAny (Value.type "set") _) _ _ _
  refine wpAny_pure ⟨(Code.quiet_builtin _ (by decide +kernel)), (codeAny_builtin F.entry_type_call ?_)⟩
  rw [(Around.under_plain (weight_type_call_type "set" [.ref l] []) rfl)]
  have m3 := F.called_set.notType
  have m4 := F.called_set.canCreate
  have m5 := F.typeCall_set_1 (.ref l)
  repeat any_goals first | assumption | wp_step
  refine codeAny_mono (code_set_led1 (.ref l) (E := X0) (Q₁ := fun ob z1 => ob = .ref z.heap.objs.size ∧ z1 = { z with heap := z.heap.push { cls := .type "set", dict := none, data := .set #[] 0 (.fresh 0 0 (!w.params.followText "set-order")) } }) ⟨rfl, rfl⟩) fun r z1 hr => ?_
  cases r with
  | error e => exact hr
  | ok fl =>
    cases fl with
    | ret ob =>
      obtain ⟨rfl, rfl⟩ := hr
      have n1 : (z.heap.push { cls := .type "set", dict := none, data := .set #[] 0 (.fresh 0 0 (!w.params.followText "set-order")) }).get? z.heap.objs.size = some { cls := .type "set", dict := none, data := .set #[] 0 (.fresh 0 0 (!w.params.followText "set-order")) } := Heap.get?_push_size _ rfl
      have n2 : Shared.TypeIs { z with heap := z.heap.push { cls := .type "set", dict := none, data := .set #[] 0 (.fresh 0 0 (!w.params.followText "set-order")) } } (.ref z.heap.objs.size) "set" := ⟨_, n1, rfl⟩
      have n3 := F.called_set.init.lookup
      have n4 := F.called_set.init.bind (.ref z.heap.objs.size)
      repeat any_goals first | assumption | wp_step
      refine codeAny_mono (codeAny_call_builtin (R := wants (fun r z2 => r = .none ∧ ∃ g1 tk c, z2 = { z with heap := g1, toks := tk } ∧ SetR w g1 z.heap.objs.size (fun j => decide (j ∈ ks)) c ∧ c ≤ ks.length ∧ (∀ b o, z.heap.get? b = some o → g1.get? b = some o)) X0)
          F.called_set.init.plain F.entry_set_init (check_set_init_1 n2 ?_)) fun r₂ z2 hr₂ => ?_
      · obtain ⟨ol, hol, hcl, nl, hdl⟩ := isl
        obtain ⟨oc, od, odt, os⟩ := ol
        simp only at hcl hdl
        subst hcl; subst hdl
        have hol' : (z.heap.push { cls := .type "set", dict := none, data := .set #[] 0 (.fresh 0 0 (!w.params.followText "set-order")) }).get? l = some { cls := .type "list", dict := od, data := .seq js nl, slots := os } := Heap.get?_push_of_some _ hol
        have p1 := F.sub_list_set
        have p2 := F.sub_list_frozenset
        have p3 : (Value.type "list" == Value.type "dict") = false := by decide
        have p4 : (z.heap.push { cls := .type "set", dict := none, data := .set #[] 0 (.fresh 0 0 (!w.params.followText "set-order")) }).IsList l js := ⟨_, hol', rfl, nl, rfl⟩
        unfold Builtin.«set.__init__»
        unfold noKeywords
        unfold Builtin.Frozenset.updateFrom
        generalize hPI : pyIter = PI
        wp_walk
        subst hPI
        refine wpAny_pyIter_list p4 ?_
        refine wpAny_bind (wpAny_runValue ?_)
        have ls : l < z.heap.objs.size := Heap.lt_size hol
        have p5 : B.in1.in1.in1.handled = none := by simp [nh]
        have p6 : l ≠ (z.heap.push { cls := .type "set", dict := none, data := .set #[] 0 (.fresh 0 0 (!w.params.followText "set-order")) }).objs.size := by
          rw [Heap.size_push]
          exact Nat.ne_of_lt (Nat.lt_succ_of_lt ls)
        have p7 : z.heap.objs.size ∉ [(z.heap.push { cls := .type "set", dict := none, data := .set #[] 0 (.fresh 0 0 (!w.params.followText "set-order")) }).objs.size, l] := by
          rw [Heap.size_push]
          simp only [List.mem_cons, List.not_mem_nil, or_false, not_or]
          exact ⟨Nat.ne_of_lt (Nat.lt_succ_self _), Nat.ne_of_gt ls⟩
        have p8 : ∀ (i : Nat) (v : Value), js[i]? = some v → ∃ k t, ks[i]? = some k ∧ v = .int k t := fun i v hv => by
          have hi : i < ks.length := by rw [← jl]; exact (Array.getElem?_eq_some_iff.mp hv).1
          obtain ⟨t, e⟩ := PyProof.Rows.IntsAre.int_at insA i v (by rw [Array.getElem?_toList]; exact hv)
          refine ⟨ks[i], t, List.getElem?_eq_getElem hi, ?_⟩
          rw [e, List.getD_eq_getElem?_getD, List.getElem?_eq_getElem hi] <;> rfl
        refine set_update_ints ((Walks.list p5 _ l p6 js).toS) z.heap.objs.size p7 ks jl few p8 (js.size - 0) 0 _ (by omega) (Nat.zero_le _) ⟨⟨_, Heap.get?_push_size _ rfl, rfl, rfl⟩, (p4.push _)⟩ ?empty ?whole
        case empty =>
          have hget : ((z.heap.push { cls := .type "set", dict := none, data := .set #[] 0 (.fresh 0 0 (!w.params.followText "set-order")) }).push { cls := .type "list_iterator", data := .fields #[.ref l, .int 0 0] }).get? z.heap.objs.size = some { cls := .type "set", dict := none, data := .set #[] 0 (.fresh 0 0 (!w.params.followText "set-order")) } := Heap.get?_push_of_some _ n1
          exact ⟨0, Nat.le_refl 0, setR_new_at hget⟩
        case whole =>
          intro z3 c3 hm hc3 hS3
          obtain ⟨g1, g2, d3, tk3, os3⟩ := z3
          have eg : g2 = z.gens := hm.gens
          have ed : d3 = z.drawn := hm.drawn
          have eo : os3 = z.os := hm.os
          subst eg; subst ed; subst eo
          show wpAny _ _ _ _ _ _
          refine wpAny_pure ?_
          show wpAny _ _ (ret (Value.none)) _ _ _
          rw [jl] at hc3
          refine wpAny_pure ⟨rfl, g1, tk3, c3, rfl, hS3, hc3, fun b o e => ?_⟩
          have b0 : b < z.heap.objs.size := Heap.lt_size e
          have b2 : b ≠ (z.heap.push { cls := .type "set", dict := none, data := .set #[] 0 (.fresh 0 0 (!w.params.followText "set-order")) }).objs.size := by rw [Heap.size_push]; exact Nat.ne_of_lt (Nat.lt_succ_of_lt b0)
          exact hm.heap b o (by simp only [List.mem_cons, List.mem_singleton, List.not_mem_nil, or_false, not_or]; exact ⟨Nat.ne_of_lt b0, b2⟩) (Heap.get?_push_of_some _ (Heap.get?_push_of_some _ e))
      · cases r₂ with
        | error e => exact hr₂
        | ok fl₂ =>
          cases fl₂ with
          | ret r =>
            obtain ⟨rfl, g1, tk, c', rfl, hS', hc', hk'⟩ := hr₂
            repeat any_goals first | assumption | wp_step
            exact fin _ _ _ hS' hc' hk'
          | _ => exact hr₂.elim
    | _ => exact hr.elim
end
section
variable {X : Cx}
/-- set(xs), xs a list of ints -/
def rSetOf (K : PySem.W.Frag) (w : World) : List V → Hp → VK → Prop := fun vs H Q => ∃ (l : Addr) (ks : List Int), vs = [V.ref l] ∧ SqL K H l (ks.map V.int) ∧ ks.length ≤ 1000 ∧
  ∀ (p : Addr) (n : Nat), H p = none → n ≤ ks.length → Q (.ref p) (upd H p (SetO w p (fun j => decide (j ∈ ks)) n))
theorem cr_setOf (hc : X.calm = true) : CallR X (.type "set") (rSetOf X.K X.w) := by
  intro pins s σ H xs us Q I r h
  obtain ⟨l, ks, rfl, hs, hz, q⟩ := h
  obtain ⟨u, rfl, ru⟩ := r.one
  cases ru
  obtain ⟨its, rv, ⟨⟨cls, dd, data, sl⟩, n, ho, hcl, hdn, hd⟩, hlen⟩ := I.list hs
  refine set_of_list (js := its.toArray) ks (I.ok.hd hc) ⟨_, ho, hcl, n, hd⟩ (by simpa using ints_of_vals rv) (Nat.lt_of_le_of_lt (show ks.length + 1 ≤ 1001 by omega) (by decide)) fun g1 tk c hS hc kp => ?_
  exact ⟨.ref _, upd H s.heap.objs.size (SetO X.w s.heap.objs.size (fun j => decide (j ∈ ks)) c), I.laid (t' := tk) kp (Nat.le_refl _) (setO_new hS), rfl, q _ c (I.hok.fresh (Nat.le_refl _)) hc⟩
end
end Kh

set_option maxRecDepth 100000
set_option maxHeartbeats 1000000
/-! for over data -/
namespace Kh
open PySem PySem.Spec PyProof.Rows L2
theorem s_for {K : PySem.W.Frag} {S : Addr → Prop} {H : Hp} {σ : L2.St} {t : TE} {g : TG} {tb : TS} {D : Ends} {b : Bool} {ds : List PyData} (kn : Kn S H)
    (hev : ∀ Q : VK, (∀ u H1, Same H H1 → Dp K (off S H1) u (sq b ds) → Q u H1) → t σ H Q)
    (step : ∀ xs H1, Same H H1 → Kn S H1 → DpAll K (off S H1) xs ds → xs.length = ds.length → ∃ Pv : Nat → L2.St → Hp → Prop, Pv 0 σ H1 ∧ (∀ i σ' H', i ≤ ds.length → Pv i σ' H' → Same (off S H1) H') ∧
      (∀ i x d σ' H', ds[i]? = some d → Dp K (off S H1) x d → Pv i σ' H' → g x σ' H' fun σ2 H2 => tb { D with nx := Pv (i + 1), ct := Pv (i + 1), bk := D.nx } σ2 H2) ∧ (∀ σ' H', Pv ds.length σ' H' → D.nx σ' H')) :
    tFor (fun σ H R => iList K t σ H R ∨ iTup K t σ H R) g tb D σ H := by
  refine it_any hev fun J xs H1 s1 ha w => ?_
  have ln := dpa_len ha
  obtain ⟨Pv, h0, hG, hs, hd⟩ := step xs H1 s1 (kn.same s1) ha ln
  refine for_it w Pv h0 (fun i σ' H' hi p => hG i σ' H' (by omega) p) (fun i x σ' H2 H3 hi p y => ?_) (fun σ' H' p => hd σ' H' (by rw [← ln]; exact p))
  obtain ⟨rfl, xi⟩ := y
  obtain ⟨d, di, dx⟩ := dpa_at ha xi
  exact hs i x d σ' H3 di dx p
section
variable {σ : L2.St} {H : Hp} {Q : VK} {D : Ends} {te : TE} {i : Nat} {v : V}
theorem g_name {k : L2.St → Hp → Prop} (h : k (σ.set i (some v)) H) : gName i v σ H k := h
end
/-- an int list by its strictly rising order -/
theorem rise_eq : ∀ {xs ys : List Int}, xs.Pairwise (· < ·) → ys.Pairwise (· < ·) → (∀ k, k ∈ xs ↔ k ∈ ys) → xs = ys
  | [], [], _, _, _ => rfl
  | [], y :: ys, _, _, h => by have := (h y).mpr List.mem_cons_self; cases this
  | x :: xs, [], _, _, h => by have := (h x).mp List.mem_cons_self; cases this
  | x :: xs, y :: ys, hx, hy, h => by
    have hx' := List.pairwise_cons.mp hx
    have hy' := List.pairwise_cons.mp hy
    have e : x = y := by
      have h1 := (h x).mp List.mem_cons_self
      have h2 := (h y).mpr List.mem_cons_self
      rcases List.mem_cons.mp h1 with h1 | h1
      · exact h1
      · rcases List.mem_cons.mp h2 with h2 | h2
        · exact h2.symm
        · have a1 := hy'.1 x h1
          have a2 := hx'.1 y h2
          omega
    subst e
    have t : xs = ys := rise_eq hx'.2 hy'.2 fun k => by
      constructor
      · intro hk
        rcases List.mem_cons.mp ((h k).mp (List.mem_cons_of_mem _ hk)) with e | e
        · subst e; exact absurd (hx'.1 k hk) (by omega)
        · exact e
      · intro hk
        rcases List.mem_cons.mp ((h k).mpr (List.mem_cons_of_mem _ hk)) with e | e
        · subst e; exact absurd (hy'.1 k hk) (by omega)
        · exact e
    rw [t]
/-- len(s), s a set of ints -/
def rLenSet (w : World) : List V → Hp → VK → Prop := fun vs H Q => ∃ (a : Addr) (S : Int → Bool) (n : Nat), vs = [V.ref a] ∧ H a = some (SetO w a S n) ∧ n ≤ 1000 ∧
  ∀ ns : List Int, ns.Nodup → (∀ k, k ∈ ns ↔ S k = true) → ns.length = n → Q (.int (n : Nat)) H
theorem cr_lenSet {X : Cx} : CallR X (.builtin "len") (rLenSet X.w) := by
  intro pins s σ H xs us Q I r h
  obtain ⟨a, S, n, rfl, ha, hz, q⟩ := h
  obtain ⟨u, rfl, ru⟩ := r.one
  cases ru
  obtain ⟨o, es, ep, t, ho, hex, hd, hg, hnd, hk, hb, hf, hn, _⟩ := setO_get I ha
  exact call_len_set ho hex hd hf (by omega) ⟨.int n, H, I.tok _, ⟨_, by rw [hn]⟩, q _ hnd (fun k => (hk k).symm) (by rw [List.length_map, Array.length_toList]; exact hn)⟩
end Kh

set_option maxRecDepth 100000
set_option maxHeartbeats 1000000
/-! sorted of a list of data -/
namespace Kh
open PySem PySem.Spec PyProof.Rows L2
def rSortD (K : PySem.W.Frag) : List V → Hp → VK → Prop := fun vs H Q => ∃ (a : Addr) (xs : List V) (ds : List PyData), vs = [V.ref a] ∧ SqL K H a xs ∧ DpAll K H xs ds ∧ PySem.W.AllAlike ds ∧ PySem.W.Sortable ds ∧ (∀ d ∈ ds, d.depth ≤ 60) ∧
  ∀ (p : Addr) (bs : List (V × PyData)), H p = none → bs.Perm (xs.zip ds) → Q (.ref p) (upd H p (.lst (bs.map Prod.fst)))
theorem zip_mem_dp {K : PySem.W.Frag} {H : Hp} : ∀ {xs : List V} {ds : List PyData}, DpAll K H xs ds → ∀ b ∈ xs.zip ds, Dp K H b.1 b.2
  | _, _, .nil, b, hb => by simp at hb
  | _, _, .cons h t, b, hb => by
    rw [List.zip_cons_cons] at hb
    rcases List.mem_cons.mp hb with rfl | hb
    · exact h
    · exact zip_mem_dp t b hb
theorem zip_snd {K : PySem.W.Frag} {H : Hp} {xs : List V} {ds : List PyData} (h : DpAll K H xs ds) : (xs.zip ds).map Prod.snd = ds := List.map_snd_zip (by rw [dpa_len h]; exact Nat.le_refl _)
theorem zip_fst {K : PySem.W.Frag} {H : Hp} {xs : List V} {ds : List PyData} (h : DpAll K H xs ds) : (xs.zip ds).map Prod.fst = xs := List.map_fst_zip (by rw [dpa_len h]; exact Nat.le_refl _)
theorem each_rel : ∀ {xs : List V} {us : List Value} {ds : List PyData}, Vals xs us → xs.length = ds.length → PySem.W.EachIs (fun (v : Value) (b : V × PyData) => RelV b.1 v) us (xs.zip ds)
  | [], _, [], .nil, _ => .nil
  | x :: xs, _, d :: ds, .cons r t, h => .cons r (each_rel t (by simpa using h))
  | [], _, _ :: _, _, h => by simp at h
  | _ :: _, _, [], _, h => by simp at h
theorem each_vals : ∀ {us : List Value} {bs : List (V × PyData)}, PySem.W.EachIs (fun (v : Value) (b : V × PyData) => RelV b.1 v) us bs → Vals (bs.map Prod.fst) us
  | _, _, .nil => .nil
  | _, _, .cons r t => .cons r (each_vals t)
theorem each_and {α β : Type} {R S : α → β → Prop} : ∀ {us : List α} {bs : List β}, PySem.W.EachIs R us bs → (∀ u b, b ∈ bs → R u b → S u b) → PySem.W.EachIs S us bs
  | _, _, .nil, _ => .nil
  | _, _, .cons r t, h => .cons (h _ _ List.mem_cons_self r) (each_and t fun u b hb => h u b (List.mem_cons_of_mem _ hb))
theorem cr_sortD {X : Cx} (hu : X.A.units + 64 < cLine) : CallR X (.builtin "sorted") (rSortD X.K) := by
  intro pins s σ H vs us Q I r h
  obtain ⟨a, xs, ds, rfl, hs, hd, hal, hk, hdp, q⟩ := h
  obtain ⟨u, rfl, ru⟩ := r.one
  cases ru
  obtain ⟨its, rv, hl, hz⟩ := I.list hs
  have e := each_rel rv (dpa_len hd)
  have er : PySem.W.EachIs (fun (v : Value) (b : V × PyData) => ∃ as, Reads s.heap v b.2 as) its (xs.zip ds) := each_and e fun u b hb ru => Dp.reads I b.2 b.1 u (zip_mem_dp hd b hb) ru
  have hlen : (xs.zip ds).length = xs.length := by rw [List.length_zip, dpa_len hd]; omega
  refine PySem.W.sorted_data (enc := Prod.snd) hl.isList e er (by rw [zip_snd hd]; exact hal) (by rw [zip_snd hd]; exact hk) (by rw [hlen]; exact hz) (fun b hb => ?_) fun out ho eo => ?_
  · have hm : b.2 ∈ ds := by
      have h1 : b.2 ∈ (xs.zip ds).map Prod.snd := List.mem_map_of_mem hb
      rwa [zip_snd hd] at h1
    have := hdp _ hm
    omega
  · have hp := List.mergeSort_perm (xs.zip ds) (PySem.W.dataLe false Prod.snd)
    have hv := each_vals eo
    obtain ⟨n, hn⟩ := sortedAll_at s.heap its (List.toArray out)
    refine ⟨.ref (s.heap.objs.size + 1), upd H (s.heap.objs.size + 1) (.lst (((xs.zip ds).mergeSort (PySem.W.dataLe false Prod.snd)).map Prod.fst)), I.laid (t' := s.toks) (fun b o z => sortedAll_old z) (Nat.le_succ _) ⟨?_, out, n, hv, hn⟩, rfl, q _ _ (I.hok.fresh (Nat.le_succ _)) hp⟩
    rw [List.length_map, hp.length_eq, hlen]; exact hz
/-- xs + ys, lists of any kind -/
def rCatS (K : PySem.W.Frag) : R2 := fun x y H Q => ∃ l b xs zs, x = .ref l ∧ y = .ref b ∧ SqL K H l xs ∧ SqL K H b zs ∧ xs.length + zs.length ≤ sizeLine ∧ ∀ p, H p = none → Q (.ref p) (upd H p (.lst (xs ++ zs)))
theorem op_catS {X : Cx} : OpR X (binaryOp .Add) (rCatS X.K) := by
  intro pins s σ H x y v u Q I rx ry h
  obtain ⟨l, b, xs, zs, rfl, rfl, hH, hB, hz, q⟩ := h
  cases rx
  cases ry
  obtain ⟨its, r, ⟨⟨c1, d1, t1, o1⟩, n1, g1, a1, a2, a3⟩, _⟩ := I.list hH
  obtain ⟨its2, r2, ⟨⟨c2, d2, t2, o2⟩, n2, g2, b1, b2, b3⟩, _⟩ := I.list hB
  simp only at a1 a2 a3 b1 b2 b3
  subst a1; subst a2; subst a3; subst b1; subst b2; subst b3
  refine concat_meets ⟨_, g1, rfl⟩ ⟨_, g2, rfl⟩ noFill_list_add seq_list_add PySem.F.slot_list_add PySem.F.entry_list_add (PySem.F.args_list_add_2 _ _) (list_addW l b its.toArray its2.toArray n1 n2 none none o1 o2 (by rw [List.size_toArray, List.size_toArray, ← r.length, ← r2.length]; exact hz)) ⟨g1, g2, ?_⟩
  have ea : its.toArray ++ its2.toArray = (its ++ its2).toArray := by simp
  rw [ea]
  exact ⟨.ref _, _, I.lnew (t' := s.toks) (r.append r2) (by rw [List.length_append]; exact hz), rfl, q _ I.fresh⟩
section
variable {X : Cx} {K : PySem.W.Frag}
theorem k_catS (h : X.K = K := by rfl) : OpR X (binaryOp .Add) (rCatS K) := by subst h; exact op_catS
theorem k_sortD (hu : X.A.units + 64 < cLine) (h : X.K = K := by rfl) : CallR X (.builtin "sorted") (rSortD K) := by subst h; exact cr_sortD hu
theorem k_setOf (hc : X.calm = true) (h : X.K = K := by rfl) : CallR X (.type "set") (rSetOf K X.w) := by subst h; exact cr_setOf hc
end
theorem cat_d {K : PySem.W.Frag} {S : Addr → Prop} {H : Hp} {x y : V} {ds es : List PyData} {Q : VK} (kn : Kn S H) (hx : Dp K (off S H) x (.list ds)) (hy : Dp K (off S H) y (.list es)) (hz : ds.length + es.length ≤ 100000)
    (q : ∀ u H', Same H H' → Dp K (off S H') u (.list (ds ++ es)) → Q u H') : rCatS K x y H Q := by
  obtain ⟨l, xs, rfl, h1, d1⟩ := list_at hx
  obtain ⟨b, zs, rfl, h2, d2⟩ := list_at hy
  refine ⟨l, b, xs, zs, rfl, rfl, off_sub.seq h1, off_sub.seq h2, ?_, fun p hp => q _ _ (same_new hp) (dp_newL kn hp (dpa_app d1 d2))⟩
  rw [dpa_len d1, dpa_len d2]
  exact Nat.le_trans hz (by decide)
theorem sort_d {K : PySem.W.Frag} {S : Addr → Prop} {H : Hp} {x : V} {ds : List PyData} {Q : VK} (kn : Kn S H) (hx : Dp K (off S H) x (.list ds)) (hal : PySem.W.AllAlike ds) (hk : PySem.W.Sortable ds) (hdp : ∀ d ∈ ds, d.depth ≤ 60)
    (q : ∀ u H' es, Same H H' → es.Perm ds → Dp K (off S H') u (.list es) → Q u H') : rSortD K [x] H Q := by
  obtain ⟨l, xs, rfl, h1, d1⟩ := list_at hx
  refine ⟨l, xs, ds, rfl, off_sub.seq h1, dpa_same off_sub _ _ d1, hal, hk, hdp, fun p bs hp pm => ?_⟩
  have pe := pm.map Prod.snd
  rw [zip_snd d1] at pe
  refine q _ _ (bs.map Prod.snd) (same_new hp) pe (dp_newL kn hp ?_)
  have go : ∀ cs : List (V × PyData), (∀ b ∈ cs, b ∈ xs.zip ds) → DpAll K (off S H) (cs.map Prod.fst) (cs.map Prod.snd) := by
    intro cs
    induction cs with
    | nil => intro _; exact .nil
    | cons c cs ih => intro h; exact .cons (zip_mem_dp d1 c (h c List.mem_cons_self)) (ih fun b hb => h b (List.mem_cons_of_mem _ hb))
  exact go bs fun b hb => pm.mem_iff.mp hb
end Kh

set_option maxRecDepth 100000
set_option maxHeartbeats 1000000
/-! sorted of a list of data, the very list -/
namespace Kh
open PySem PySem.Spec PyProof.Rows L2
abbrev leD : PyData → PyData → Bool := PySem.W.dataLe false fun d : PyData => d
theorem leD_total : PySem.W.TotalLe leD := PySem.W.sortLe_total _ _ _
def rSortM (K : PySem.W.Frag) : List V → Hp → VK → Prop := fun vs H Q => ∃ (a : Addr) (xs : List V) (ds : List PyData), vs = [V.ref a] ∧ SqL K H a xs ∧ DpAll K H xs ds ∧ PySem.W.AllAlike ds ∧ PySem.W.Sortable ds ∧ (∀ d ∈ ds, d.depth ≤ 60) ∧
  ∀ (p : Addr) (bs : List (V × PyData)), H p = none → bs.Perm (xs.zip ds) → bs.map Prod.snd = ds.mergeSort leD → Q (.ref p) (upd H p (.lst (bs.map Prod.fst)))
theorem cr_sortM {X : Cx} (hu : X.A.units + 64 < cLine) : CallR X (.builtin "sorted") (rSortM X.K) := by
  intro pins s σ H vs us Q I r h
  obtain ⟨a, xs, ds, rfl, hs, hd, hal, hk, hdp, q⟩ := h
  obtain ⟨u, rfl, ru⟩ := r.one
  cases ru
  obtain ⟨its, rv, hl, hz⟩ := I.list hs
  have e := each_rel rv (dpa_len hd)
  have er : PySem.W.EachIs (fun (v : Value) (b : V × PyData) => ∃ as, Reads s.heap v b.2 as) its (xs.zip ds) := each_and e fun u b hb ru => Dp.reads I b.2 b.1 u (zip_mem_dp hd b hb) ru
  have hlen : (xs.zip ds).length = xs.length := by rw [List.length_zip, dpa_len hd]; omega
  refine PySem.W.sorted_data (enc := Prod.snd) hl.isList e er (by rw [zip_snd hd]; exact hal) (by rw [zip_snd hd]; exact hk) (by rw [hlen]; exact hz) (fun b hb => ?_) fun out ho eo => ?_
  · have hm : b.2 ∈ ds := by
      have h1 : b.2 ∈ (xs.zip ds).map Prod.snd := List.mem_map_of_mem hb
      rwa [zip_snd hd] at h1
    have := hdp _ hm
    omega
  · have hp := List.mergeSort_perm (xs.zip ds) (PySem.W.dataLe false Prod.snd)
    have hv := each_vals eo
    obtain ⟨n, hn⟩ := sortedAll_at s.heap its (List.toArray out)
    have hm : ((xs.zip ds).mergeSort (PySem.W.dataLe false Prod.snd)).map Prod.snd = ds.mergeSort leD := by
      exact (PySem.W.sort_maps (r := PySem.W.dataLe false Prod.snd) (s := leD) (Prod.snd : V × PyData → PyData) (fun _ _ _ _ => rfl)).trans (by rw [zip_snd hd])
    refine ⟨.ref (s.heap.objs.size + 1), upd H (s.heap.objs.size + 1) (.lst (((xs.zip ds).mergeSort (PySem.W.dataLe false Prod.snd)).map Prod.fst)), I.laid (t' := s.toks) (fun b o z => sortedAll_old z) (Nat.le_succ _) ⟨?_, out, n, hv, hn⟩, rfl, q _ _ (I.hok.fresh (Nat.le_succ _)) hp hm⟩
    rw [List.length_map, hp.length_eq, hlen]; exact hz
theorem k_sortM {X : Cx} {K : PySem.W.Frag} (hu : X.A.units + 64 < cLine) (h : X.K = K := by rfl) : CallR X (.builtin "sorted") (rSortM K) := by subst h; exact cr_sortM hu
theorem sort_m {α : Type} {K : PySem.W.Frag} {S : Addr → Prop} {H : Hp} {x : V} {ms : List α} {f : α → PyData} {le : α → α → Bool} {Q : VK} (hle : ∀ a ∈ ms, ∀ b ∈ ms, le a b = leD (f a) (f b)) (kn : Kn S H) (hx : Dp K (off S H) x (.list (ms.map f))) (hal : ∀ a ∈ ms, ∀ b ∈ ms, PySem.W.alike (f a) (f b) = true) (hk : PySem.W.Sortable (ms.map f)) (hdp : ∀ a ∈ ms, (f a).depth ≤ 60)
    (q : ∀ u H', Same H H' → Dp K (off S H') u (.list ((ms.mergeSort le).map f)) → Q u H') : rSortM K [x] H Q := by
  obtain ⟨l, xs, rfl, h1, d1⟩ := list_at hx
  refine ⟨l, xs, ms.map f, rfl, off_sub.seq h1, dpa_same off_sub _ _ d1, fun d hd d' hd' => ?_, hk, fun d hd => ?_, fun p bs hp pm em => ?_⟩
  · obtain ⟨a, ha, rfl⟩ := List.mem_map.mp hd
    obtain ⟨b, hb, rfl⟩ := List.mem_map.mp hd'
    exact hal a ha b hb
  · obtain ⟨a, ha, rfl⟩ := List.mem_map.mp hd
    exact hdp a ha
  have pe : bs.map Prod.snd = (ms.mergeSort le).map f := by
    rw [em]; exact (PySem.W.sort_maps f hle).symm
  refine q _ _ (same_new hp) (dp_newL kn hp ?_)
  rw [← pe]
  have go : ∀ cs : List (V × PyData), (∀ b ∈ cs, b ∈ xs.zip (ms.map f)) → DpAll K (off S H) (cs.map Prod.fst) (cs.map Prod.snd) := by
    intro cs
    induction cs with
    | nil => intro _; exact .nil
    | cons c cs ih => intro h; exact .cons (zip_mem_dp d1 c (h c List.mem_cons_self)) (ih fun b hb => h b (List.mem_cons_of_mem _ hb))
  exact go bs fun b hb => pm.mem_iff.mp hb
/-- lists in order with the same elements are one list -/
theorem order_one {α : Type} {le : α → α → Bool} (anti : ∀ a b, le a b = true → le b a = true → a = b) : ∀ {l m : List α}, l.Pairwise (fun a b => le a b = true) → m.Pairwise (fun a b => le a b = true) → l.Perm m → l = m
  | [], m, _, _, p => (List.nil_perm.mp p).symm
  | a :: l, [], _, _, p => (List.perm_nil.mp p)
  | a :: l, b :: m, h1, h2, p => by
    have h1' := List.pairwise_cons.mp h1
    have h2' := List.pairwise_cons.mp h2
    have e : a = b := by
      rcases List.mem_cons.mp (p.mem_iff.mp (List.mem_cons_self (a := a) (l := l))) with e | ha
      · exact e
      · rcases List.mem_cons.mp (p.mem_iff.mpr (List.mem_cons_self (a := b) (l := m))) with e | hb
        · exact e.symm
        · exact anti a b (h1'.1 b hb) (h2'.1 a ha)
    subst e
    rw [order_one anti h1'.2 h2'.2 (List.Perm.cons_inv p)]
theorem sort_perm {α : Type} {le : α → α → Bool} (t : PySem.W.TotalLe le) (anti : ∀ a b, le a b = true → le b a = true → a = b) {l m : List α} (p : l.Perm m) : l.mergeSort le = m.mergeSort le :=
  order_one anti (PySem.W.sort_pairwise t l) (PySem.W.sort_pairwise t m) (((List.mergeSort_perm l le).trans p).trans (List.mergeSort_perm m le).symm)
end Kh

set_option maxRecDepth 100000
set_option maxHeartbeats 1000000
/-! comprehensions and loops over what stands for a list of anything -/
namespace Kh
open PySem PySem.Spec PyProof.Rows L2
def pick {α β : Type} (ms : List α) (d : β) (g : α → β) (j : Nat) : β := match ms[j]? with | some m => g m | none => d
theorem pick_eq {α β : Type} {ms : List α} {d : β} {g : α → β} {j : Nat} {m : α} (h : ms[j]? = some m) : pick ms d g j = g m := by unfold pick; rw [h]
theorem at_map {α β : Type} {ms : List α} {f : α → β} {j : Nat} {d : β} (h : (ms.map f)[j]? = some d) : ∃ m, ms[j]? = some m ∧ m ∈ ms ∧ d = f m := by
  rw [List.getElem?_map] at h
  cases e : ms[j]? with
  | none => rw [e] at h; cases h
  | some m => rw [e] at h; exact ⟨m, rfl, List.mem_of_getElem? e, (Option.some.inj h).symm⟩
theorem lcM {α : Type} {K : PySem.W.Frag} {S : Addr → Prop} {H : Hp} {σ : L2.St} {t te : TE} {sl : Nat} {vs : List Nat} {Q : VK} (b : Bool) (ms : List α) (f g : α → PyData) (kn : Kn S H)
    (hev : ∀ Q : VK, (∀ u H1, Same H H1 → Dp K (off S H1) u (sq b (ms.map f)) → Q u H1) → t σ H Q) (hn : ms.length ≤ 100000) (hw : ∀ x, wipe ((wipe σ vs).set sl (some x)) vs = wipe σ vs)
    (body : ∀ m ∈ ms, ∀ x H1 S', Same H H1 → Kn S' H1 → Dp K (off S' H1) x (f m) → (∀ a, S a → S' a) → Same (off S H) (off S' H1) → ∀ Q : VK, (∀ y H', Same H1 H' → Dp K (off S' H') y (g m) → Q y H') → te ((wipe σ vs).set sl (some x)) H1 Q)
    (done : ∀ D H1 ys, H D = none → Same H H1 → H1 D = some (.lst ys) → Dp K (off S H1) (.ref D) (.list (ms.map g)) → Q (.ref D) H1) :
    tLc (fun σ H R => iList K t σ H R ∨ iTup K t σ H R) (gName sl) tYes te vs σ H Q := by
  refine lc_seq (b := b) (ds := ms.map f) (pick ms .none g) kn hev (by rw [List.length_map]; exact hn) hw (fun j x d H1 S' dj s1 kn1 dx hS ho Q q => ?_) fun D H1 ys hD s1 hd h => done D H1 ys hD s1 hd ?_
  · obtain ⟨m, hj, hm, rfl⟩ := at_map dj
    exact body m hm x H1 S' s1 kn1 dx hS ho Q fun y H' s' d' => q y H' s' (by rw [pick_eq hj]; exact d')
  · rw [List.length_map] at h
    rw [range_map (g := g) fun i x e => pick_eq e] at h
    exact h
theorem lcF {α : Type} {K : PySem.W.Frag} {S : Addr → Prop} {H : Hp} {σ : L2.St} {t te : TE} {tt : TT} {sl : Nat} {vs : List Nat} {Q : VK} (b : Bool) (ms : List α) (p : α → Bool) (f g : α → PyData) (kn : Kn S H)
    (hev : ∀ Q : VK, (∀ u H1, Same H H1 → Dp K (off S H1) u (sq b (ms.map f)) → Q u H1) → t σ H Q) (hn : ms.length ≤ 100000) (hw : ∀ x, wipe ((wipe σ vs).set sl (some x)) vs = wipe σ vs)
    (test : ∀ m ∈ ms, ∀ x H1 S', Same H H1 → Kn S' H1 → Dp K (off S' H1) x (f m) → (∀ a, S a → S' a) → Same (off S H) (off S' H1) → ∀ Q : Bool → Hp → Prop, (∀ H', Same H1 H' → Q (p m) H') → tt ((wipe σ vs).set sl (some x)) H1 Q)
    (body : ∀ m ∈ ms, p m = true → ∀ x H1 S', Same H H1 → Kn S' H1 → Dp K (off S' H1) x (f m) → (∀ a, S a → S' a) → Same (off S H) (off S' H1) → ∀ Q : VK, (∀ y H', Same H1 H' → Dp K (off S' H') y (g m) → Q y H') → te ((wipe σ vs).set sl (some x)) H1 Q)
    (done : ∀ D H1 ys, H D = none → Same H H1 → H1 D = some (.lst ys) → Dp K (off S H1) (.ref D) (.list ((ms.filter p).map g)) → Q (.ref D) H1) :
    tLc (fun σ H R => iList K t σ H R ∨ iTup K t σ H R) (gName sl) tt te vs σ H Q := by
  refine lc_seqF (b := b) (ds := ms.map f) (pick ms false p) (pick ms .none g) kn hev (by rw [List.length_map]; exact hn) hw (fun j x d H1 S' dj s1 kn1 dx hS ho Q q => ?_) (fun j x d H1 S' dj pj s1 kn1 dx hS ho Q q => ?_) fun D H1 ys hD s1 hd h => done D H1 ys hD s1 hd ?_
  · obtain ⟨m, hj, hm, rfl⟩ := at_map dj
    exact test m hm x H1 S' s1 kn1 dx hS ho Q fun H' s' => by have := q H' s'; rwa [pick_eq hj] at this
  · obtain ⟨m, hj, hm, rfl⟩ := at_map dj
    rw [pick_eq hj] at pj
    exact body m hm pj x H1 S' s1 kn1 dx hS ho Q fun y H' s' d' => q y H' s' (by rw [pick_eq hj]; exact d')
  · rw [List.length_map] at h
    rw [range_filter (p := p) (g := g) fun i x e => ⟨pick_eq e, pick_eq e⟩] at h
    exact h
theorem forM {α : Type} {K : PySem.W.Frag} {S : Addr → Prop} {H : Hp} {σ : L2.St} {t : TE} {g : TG} {tb : TS} {D : Ends} (b : Bool) (ms : List α) (f : α → PyData) (kn : Kn S H)
    (hev : ∀ Q : VK, (∀ u H1, Same H H1 → Dp K (off S H1) u (sq b (ms.map f)) → Q u H1) → t σ H Q)
    (step : ∀ H1, Same H H1 → Kn S H1 → ∃ Pv : Nat → L2.St → Hp → Prop, Pv 0 σ H1 ∧ (∀ i σ' H', Pv i σ' H' → Same (off S H1) H') ∧
      (∀ i m x σ' H', ms[i]? = some m → i < ms.length → m ∈ ms → Dp K (off S H1) x (f m) → Pv i σ' H' → g x σ' H' fun σ2 H2 => tb { D with nx := Pv (i + 1), ct := Pv (i + 1), bk := D.nx } σ2 H2) ∧ (∀ σ' H', Pv ms.length σ' H' → D.nx σ' H')) :
    tFor (fun σ H R => iList K t σ H R ∨ iTup K t σ H R) g tb D σ H := by
  refine s_for (b := b) (ds := ms.map f) kn hev fun xs H1 s1 kn1 ha hl => ?_
  obtain ⟨Pv, h0, h1, h2, h3⟩ := step H1 s1 kn1
  refine ⟨Pv, h0, fun i σ' H' _ h => h1 i σ' H' h, fun i x d σ' H' di dx h => ?_, fun σ' H' h => h3 σ' H' (by rwa [List.length_map] at h)⟩
  obtain ⟨m, hj, hm, rfl⟩ := at_map di
  exact h2 i m x σ' H' hj (List.getElem?_eq_some_iff.mp hj).1 hm dx h
theorem lc2M {α β : Type} {K : PySem.W.Frag} {S : Addr → Prop} {H : Hp} {σ : L2.St} {t t2 te : TE} {s1 s2 : Nat} {vs vs1 : List Nat} {Q : VK} (b b2 : Bool) (ms : List α) (f : α → PyData) (ins : α → List β) (f2 : β → PyData) (g : α → β → PyData) (kn : Kn S H)
    (hev : ∀ Q : VK, (∀ u H1, Same H H1 → Dp K (off S H1) u (sq b (ms.map f)) → Q u H1) → t σ H Q) (hn : (ms.flatMap ins).length ≤ 100000) (hw : ∀ x, wipe ((wipe σ vs).set s1 (some x)) vs = wipe σ vs)
    (hw1 : ∀ x y, wipe ((wipe ((wipe σ vs).set s1 (some x)) vs1).set s2 (some y)) vs1 = wipe ((wipe σ vs).set s1 (some x)) vs1)
    (inner : ∀ m ∈ ms, ∀ x H1 S', Same H H1 → Kn S' H1 → Dp K (off S' H1) x (f m) → (∀ a, S a → S' a) → Same (off S H) (off S' H1) → ∀ Q : VK, (∀ y H', Same H1 H' → Dp K (off S' H') y (sq b2 ((ins m).map f2)) → Q y H') → t2 ((wipe σ vs).set s1 (some x)) H1 Q)
    (body : ∀ m ∈ ms, ∀ n ∈ ins m, ∀ x y H1 S', Same H H1 → Kn S' H1 → Dp K (off S' H1) x (f m) → Dp K (off S' H1) y (f2 n) → (∀ a, S a → S' a) → Same (off S H) (off S' H1) → ∀ Q : VK, (∀ z H', Same H1 H' → Dp K (off S' H') z (g m n) → Q z H') → te ((wipe ((wipe σ vs).set s1 (some x)) vs1).set s2 (some y)) H1 Q)
    (done : ∀ D H1 ys, H D = none → Same H H1 → H1 D = some (.lst ys) → Dp K (off S H1) (.ref D) (.list (ms.flatMap fun m => (ins m).map (g m))) → Q (.ref D) H1) :
    tLc2 (fun σ H R => iList K t σ H R ∨ iTup K t σ H R) (gName s1) tYes (fun σ H R => iList K t2 σ H R ∨ iTup K t2 σ H R) (gName s2) tYes te vs vs1 σ H Q := by
  refine it_any hev fun J xs H1 s ha w D hD => ?_
  have ln := dpa_len ha
  rw [List.length_map] at ln
  have kn1 := kn.same s
  have tk : ∀ n, ((ms.take n).flatMap fun m => (ins m).map (g m)).length ≤ 100000 := fun n => by
    have e : (ms.flatMap fun m => (ins m).map (g m)).length = (ms.flatMap ins).length := by
      rw [List.length_flatMap, List.length_flatMap]; simp
    have h : (ms.flatMap fun m => (ins m).map (g m)).length = ((ms.take n).flatMap fun m => (ins m).map (g m)).length + ((ms.drop n).flatMap fun m => (ins m).map (g m)).length := by
      rw [← List.length_append, ← List.flatMap_append, List.take_append_drop]
    omega
  have step : ∀ n m, ms[n]? = some m → ((ms.take (n + 1)).flatMap fun m => (ins m).map (g m)) = ((ms.take n).flatMap fun m => (ins m).map (g m)) ++ (ins m).map (g m) := fun n m e => by
    rw [List.take_add_one, e, List.flatMap_append]; simp
  refine wlk w (fun x H' Nx => gName s1 x (wipe σ vs) H' _) (fun i H' => ∃ ys, DpAll K (off (plus S D) H') ys ((ms.take i).flatMap fun m => (ins m).map (g m)) ∧ Same H1 H' ∧ H' D = some (.lst ys)) ⟨[], .nil, same_new hD, upd_same⟩ (fun i H' _ ⟨_, _, z, _⟩ => off_sub.trans z) ?_ ?_
  · rintro i x H2 H3 hi ⟨ys, py, z, hd⟩ ⟨rfl, xi⟩
    obtain ⟨d, dj, dx⟩ := dpa_at ha xi
    obtain ⟨m, hj, hm, rfl⟩ := at_map dj
    refine ⟨hw x, t_yes ?_⟩
    have dx3 := dp_same (off_plus hD z) _ _ dx
    have off3 : Same (off S H) (off (plus S D) H3) := (off_same s).trans (off_plus hD z)
    refine it_any (b := b2) (S := plus S D) (ds := (ins m).map f2) (fun Q q => inner m hm x H3 (plus S D) (s.trans z) ((kn1.same z).plus (some_ne hd)) dx3 (fun _ h => .inl h) off3 Q q) fun J1 zs H4 s4 hz w1 => ?_
    have lz := dpa_len hz
    rw [List.length_map] at lz
    have kn4 : Kn (plus S D) H4 := ((kn1.same z).plus (some_ne hd)).same s4
    refine wlk w1 (fun y H' Nx => gName s2 y (wipe ((wipe σ vs).set s1 (some x)) vs1) H' fun σ3 H5 => wipe σ3 vs1 = wipe ((wipe σ vs).set s1 (some x)) vs1 ∧ tYes σ3 H5 fun b H6 => if b = true then te σ3 H6 fun y H7 => ∃ acc, H7 D = some (.lst acc) ∧ acc.length < sizeLine ∧ Nx (upd H7 D (.lst (acc ++ [y]))) else Nx H6) (fun j H' => ∃ ys', DpAll K (off (plus S D) H') ys' (((ms.take i).flatMap fun m => (ins m).map (g m)) ++ ((ins m).map (g m)).take j) ∧ SameBut D H4 H' ∧ H' D = some (.lst ys')) ⟨ys, by simpa using dpa_same (off_same s4) _ _ py, sbut (Same.refl _), s4 _ _ hd⟩ (fun j H' _ ⟨_, _, z', _⟩ => fun c o h => z' c o (fun e => (off_some h).1 (.inr e)) (off_some h).2) ?_ fun H5 h5 => ?_
    · rintro j y H5 H6 hjz ⟨ys', py', z', hd'⟩ ⟨rfl, yj⟩
      obtain ⟨e, ej, de⟩ := dpa_at hz yj
      obtain ⟨n, nj, hn', rfl⟩ := at_map ej
      refine ⟨hw1 x y, t_yes ?_⟩
      have hl : ys'.length ≤ 100000 := by
        have h1 := dpa_len py'
        have h2 := tk (i + 1)
        rw [step i m hj, List.length_append] at h2
        rw [h1, List.length_append, List.length_take]
        omega
      have sH6 : Same H H6 := fun b o h => by
        have h1 : H1 b = some o := s b o h
        exact z' b o (ne_of_none h1 hD) (s4 b o (z b o h1))
      have k6 : Kn (plus S D) H6 := fun b hb => by
        by_cases e : b = D
        · subst e; exact some_ne hd'
        · cases hq : H4 b with
          | none => exact (kn4 b hb hq).elim
          | some o => exact some_ne (z' b o e hq)
      have ob6 : Same (off (plus S D) H4) (off (plus S D) H6) := off_but z'
      refine body m hm n hn' x y H6 (plus S D) sH6 k6 (dp_same ((off_same s4).trans ob6) _ _ dx3) (dp_same ob6 _ _ de) (fun _ h => .inl h) ((off3.trans (off_same s4)).trans ob6) _ fun u H7 s7 d7 => ?_
      refine ⟨ys', s7 _ _ hd', Nat.lt_of_le_of_lt hl (by decide), ys' ++ [u], ?_, bmut fun b o n h => s7 b o (z' b o n h), upd_same⟩
      rw [off_mut (show plus S D D from .inr rfl), List.take_add_one, List.getElem?_map, nj, ← List.append_assoc]
      exact dpa_app (dpa_same (off_same s7) _ _ py') (.cons d7 .nil)
    · obtain ⟨ys', py', z', hd'⟩ := h5
      refine ⟨ys', ?_, ?_, hd'⟩
      · rw [step i m hj]
        rwa [List.take_of_length_le (show ((ins m).map (g m)).length ≤ zs.length by rw [List.length_map]; omega)] at py'
      · intro c o h
        exact z' c o (ne_of_none h hD) (s4 c o (z c o h))
  · rintro H2 ⟨ys, py, z, hd⟩
    refine done D H2 ys (s.free hD) (s.trans z) hd (dp_lst (kn1.new hD) hd ?_)
    rw [ln, List.take_length] at py
    exact dpa_same (off_fin (D := D)) _ _ py
end Kh

set_option maxRecDepth 100000
set_option maxHeartbeats 4000000
namespace K31
open PySem PySem.Spec PyProof.Rows L2 Kh
/-- a pot stands at p -/
def PotAt (H : Hp) (p : Addr) : Prop := ∃ x y : Int, H p = some (.lst [.int x, .int y]) ∧ y.natAbs < 2 ^ 40
theorem log_lt {j : Int} {b : Nat} (h : j.natAbs < 2 ^ b) (h0 : 0 < b) : j.natAbs.log2 < b := PySem.Flt.log2_lt_of h0 h
section
variable {P : Program} {w : World} {K : PySem.W.Frag} {mg : Str → Option Value} {base : Heap} {a : Nat → Addr} {fd : Nat → FuncData} {C : Addr} {tk : Nat → Tok}
/-- a new pot -/
def spPot (K : PySem.W.Frag) : Sp := fun vs H Q _ => ∃ (v : V) (ns : List Int) (k : Nat), vs = [v, .int (k : Nat)] ∧ Dp K H v (.list (ns.map PyData.int)) ∧ k < 100 ∧ ∀ p H', Same H H' → H p = none → PotAt H' p → Q (.ref p) H'
theorem ok__law_pot (T : Txt K mg a fd C tk) : FnOk P w K mg base CX0 1 (a 16) (fd 16) ["_law_script", "_law_k"] (spPot K) := by
  refine T.F__law_pot.ok sc__law_pot (fun vs H Q E h => by obtain ⟨_, _, _, rfl, _⟩ := h; rfl) (fun cdv A outer s H vs Q E hr h => ?_)
  obtain ⟨v, ns, k, rfl, hd, hk, q⟩ := h
  refine ⟨_, (pss_cons (ps_set (i := 2) sc__law_pot.nd rfl (Or.inl rfl) (pe_op op_add (pe_op op_mulW pe_int (pv 1)) pe_int))
      (pss_cons (ps_if (pt_cmpR op_lt (pv 1) (pe_callB (k_len (K := K)) (by rfl) T.z_len (by decide +kernel) (pa_cons (pv 0) pa_nil)) (nomark _))
        (pss_one (ps_set (i := 2) sc__law_pot.nd rfl (Or.inl rfl) (pe_callB call_absR (by rfl) T.z_abs (by decide +kernel) (pa_cons (pe_ix (k_ix (K := K)) (pv 0) (pv 1) (fun _ _ => rfl)) pa_nil)))) pss_nil)
      (pss_one (ps_ret (pe_lst (pa_cons (pe_callB (call_max2R rfl) (by rfl) T.z_max (by decide +kernel) (pa_cons pe_int (pa_cons (pe_op op_sub (pv 2) (pe_op op_pow pe_int pe_int)) pa_nil))) (pa_cons (pe_op op_add (pe_op op_mod (pe_callTy call_int1R (by rfl) T.z_int (by decide +kernel) (pa_cons (pe_op op_add (pe_op op_add (pe_op op_mulW (pe_op op_mod (pe_callTy call_int1R (by rfl) T.z_int (by decide +kernel) (pa_cons (pv 2) pa_nil)) pe_int) pe_int) (pe_op op_mulW pe_int (pv 1))) pe_int) pa_nil)) pe_int) pe_int) pa_nil))))))), ?_⟩
  have kb : ((k : Nat) : Int).natAbs < 2 ^ 7 := by simp; omega
  refine s_seq (s_set (t_op (t_op (t_c (t_var rfl ⟨_, _, rfl, rfl, wide_mul (a := 8) (b := 7) (by decide) kb (by decide) (by decide) (by decide), t_c ⟨_, _, rfl, rfl, ?_⟩⟩)))))
  -- the second half, whatever the cell is
  have fin : ∀ c : Int, (tRet (tLst (tCons (tCB rMax2 (tCons (tC (.int 0)) (tCons (tOp (rI0 fun i j => V.int (i - j)) (tVar 2) (tOp (rI CPow fun i j => V.int (i ^ j.toNat)) (tC (.int 10)) (tC (.int 18)))) tNil)))
      (tCons (tOp (rI0 fun i j => V.int (i + j)) (tOp (rI (fun _ j => 0 < j) fun i j => V.int (i % j)) (tCB rInt1 (tCons (tOp (rI0 fun i j => V.int (i + j)) (tOp (rI0 fun i j => V.int (i + j)) (tOp (rI CMulW fun i j => V.int (i * j)) (tOp (rI (fun _ j => 0 < j) fun i j => V.int (i % j)) (tCB rInt1 (tCons (tVar 2) tNil)) (tC (.int 2147483549))) (tC (.int 48271))) (tOp (rI CMulW fun i j => V.int (i * j)) (tC (.int 9511)) (tVar 1))) (tC (.int 43))) tNil)) (tC (.int 2147483497))) (tC (.int 1))) tNil)))) { nx := fun _ H' => Q .non H', rt := Q } [some v, some (.int (k : Nat)), some (.int c)] H := by
    intro c
    refine s_ret (t_lst (a_cons (t_cb2 (t_c (t_op (t_var rfl (t_op (t_c (t_c ⟨_, _, rfl, rfl, ⟨by decide, by decide, by decide⟩, ?_⟩))))))))) 
    refine ⟨_, _, rfl, rfl, ⟨_, _, rfl, ?_⟩⟩
    refine a_cons (t_op (t_op (t_cb1 (t_op (t_op (t_op (t_op (t_cb1 (t_var rfl (.inl ⟨_, rfl, t_c ⟨_, _, rfl, rfl, (by decide : (0 : Int) < 2147483549), ?_⟩⟩)))))))))) 
    have m1 : (c % 2147483549).natAbs < 2 ^ 31 := by
      have h1 := Int.emod_nonneg c (show (2147483549 : Int) ≠ 0 by decide)
      have h2 := Int.emod_lt_of_pos c (show (0 : Int) < 2147483549 by decide)
      omega
    refine t_c ⟨_, _, rfl, rfl, wide_mul (a := 31) (b := 16) m1 (by decide) (by decide) (by decide) (by decide), ?_⟩
    refine t_op (t_c (t_var rfl ⟨_, _, rfl, rfl, wide_mul (a := 14) (b := 7) (by decide) kb (by decide) (by decide) (by decide), ⟨_, _, rfl, rfl, t_c ⟨_, _, rfl, rfl, .inl ⟨_, rfl, t_c ⟨_, _, rfl, rfl, (by decide : (0 : Int) < 2147483497), t_c ⟨_, _, rfl, rfl, a_nil ⟨le2, fun p hp => ?_⟩⟩⟩⟩⟩⟩⟩))
    generalize hz : (c % 2147483549 * 48271 + 9511 * (k : Int) + 43) = z
    refine q p _ (same_new hp) hp ⟨_, _, upd_same, ?_⟩
    have h1 := Int.emod_nonneg z (show (2147483497 : Int) ≠ 0 by decide)
    have h2 := Int.emod_lt_of_pos z (show (0 : Int) < 2147483497 by decide)
    omega
  obtain ⟨l, xs, rfl, hs, ha⟩ := list_at hd
  have ex := dpa_ints ha
  subst ex
  refine s_seq (s_if (b_test (t_op (t_var rfl (t_cb1 (t_var rfl ⟨l, _, rfl, .inl hs, ⟨_, _, rfl, rfl, ?_⟩⟩))))))
  refine ⟨_, rfl, if_b (fun c => ?_) (fun c => s_next (fin _))⟩
  have hk2 : k < ns.length := by have := of_decide_eq_true c; rw [List.length_map] at this; omega
  refine s_set (t_cb1 (t_op (t_var rfl (t_var rfl (.inl ⟨l, _, ((k : Nat) : Int), .int ns[k], rfl, rfl, hs, atI_nat (by simp [hk2]), ⟨_, rfl, fin _⟩⟩)))))
end
end K31

set_option maxRecDepth 100000
set_option maxHeartbeats 4000000
namespace K31
open PySem PySem.Spec PyProof.Rows L2 Kh
section
variable {P : Program} {w : World} {K : PySem.W.Frag} {mg : Str → Option Value} {base : Heap} {a : Nat → Addr} {fd : Nat → FuncData} {C : Addr} {tk : Nat → Tok}
/-- a draw below many -/
def spDraw (K : PySem.W.Frag) : Sp := fun vs H Q _ => ∃ (p : Addr) (m : Nat), vs = [.ref p, .int (m : Nat)] ∧ PotAt H p ∧ 0 < m ∧ m < 100000 ∧ ∀ (d : Nat) H', d < m → SameBut p H H' → PotAt H' p → Q (.int (d : Nat)) H'
theorem ok__law_draw (T : Txt K mg a fd C tk) : FnOk P w K mg base CX0 1 (a 17) (fd 17) ["_law_pot_here", "_law_many"] (spDraw K) := by
  refine T.F__law_draw.ok sc__law_draw (fun vs H Q E h => by obtain ⟨_, _, rfl, _⟩ := h; rfl) (fun cdv A outer s H vs Q E hr h => ?_)
  obtain ⟨p, m, rfl, ⟨x, y, hp, hy⟩, m0, m1, q⟩ := h
  refine ⟨_, (pss_cons (ps_if (pt_cmpR op_gt (pe_ix (k_ix (K := K)) (pv 0) pe_int (fun _ _ => rfl)) pe_int (nomark _))
        (pss_cons (ps_asg (pe_callB call_divmodW (by rfl) T.z_divmod (by decide +kernel) (pa_cons (pe_ix (k_ix (K := K)) (pv 0) pe_int (fun _ _ => rfl)) (pa_cons (pv 1) pa_nil))) (pg_tup rfl (pgs_cons (pg_sub (pv 0) pe_int set_list) (pgs_cons (pg_name (i := 2) sc__law_draw.nd rfl (Or.inl rfl)) pgs_nil))))
        (pss_one (ps_ret (pv 2)))) pss_nil)
      (pss_cons (ps_asg (pe_op op_mod (pe_callTy call_int1R (by rfl) T.z_int (by decide +kernel) (pa_cons (pe_op op_add (pe_op op_mulW (pe_ix (k_ix (K := K)) (pv 0) pe_int (fun _ _ => rfl)) pe_int) pe_int) pa_nil)) pe_int) (pg_sub (pv 0) pe_int set_list))
      (pss_one (ps_ret (pe_op op_mod (pe_callTy call_int1R (by rfl) T.z_int (by decide +kernel) (pa_cons (pe_op op_fdivW (pe_op op_mod (pe_callTy call_int1R (by rfl) T.z_int (by decide +kernel) (pa_cons (pe_op op_mulW (pe_ix (k_ix (K := K)) (pv 0) pe_int (fun _ _ => rfl)) (pe_ix (k_ix (K := K)) (pv 0) pe_int (fun _ _ => rfl))) pa_nil)) pe_int) pe_int) pa_nil)) (pv 1)))))), ?_⟩
  have at0 : ∀ {H' : Hp} {u v : V} {Q' : VK}, H' p = some (.lst [u, v]) → Q' u H' → rIx K (.ref p) (.int 0) H' Q' := fun {H' u v Q'} h q => .inl ⟨p, _, ((0 : Nat) : Int), u, rfl, rfl, sqL h, atI_nat (j := 0) rfl, q⟩
  have at1 : ∀ {H' : Hp} {u v : V} {Q' : VK}, H' p = some (.lst [u, v]) → Q' v H' → rIx K (.ref p) (.int 1) H' Q' := fun {H' u v Q'} h q => .inl ⟨p, _, ((1 : Nat) : Int), v, rfl, rfl, sqL h, atI_nat (j := 1) rfl, q⟩
  have mb : ((m : Nat) : Int).natAbs.log2 < 9000 := Nat.lt_of_lt_of_le (log_lt (b := 17) (by simp; omega) (by decide)) (by decide)
  have dig : ∀ z : Int, ∃ d : Nat, d < m ∧ z % (m : Nat) = (d : Nat) := fun z => by
    have h1 := Int.emod_nonneg z (show ((m : Nat) : Int) ≠ 0 by omega)
    have h2 := Int.emod_lt_of_pos z (show (0 : Int) < (m : Nat) by omega)
    exact ⟨(z % (m : Nat)).toNat, by omega, by omega⟩
  refine s_seq (s_if (b_test (t_op (t_op (t_var rfl (t_c (at0 hp (t_c ⟨_, _, rfl, rfl, ?_⟩))))))))
  refine ⟨_, rfl, if_b (fun c => ?_) (fun c => s_next ?_)⟩
  · refine s_seq ?_
    refine t_cb2 (t_op (t_var rfl (t_c (at0 hp (t_var rfl ⟨_, _, rfl, ⟨by omega, PyProof.noPylong_of_log2 mb⟩, fun r hr0 => ?_⟩)))))
    have hpr := same_new (o := HO.tup [V.int (x / (m : Nat)), V.int (x % (m : Nat))]) hr0 _ _ hp
    refine ⟨r, _, rfl, sqT upd_same, rfl, _, _, rfl, ?_⟩
    refine t_var rfl (t_c ⟨p, _, 0, 0, rfl, rfl, hpr, rfl, ?_⟩)
    refine ⟨_, _, rfl, g_name ⟨rfl, ?_⟩⟩
    refine s_ret (t_var rfl ?_)
    obtain ⟨d, hd, e⟩ := dig x
    rw [e]
    exact q d _ hd (bmut (sbut (same_new hr0))) ⟨_, _, upd_same, hy⟩
  · refine s_seq ?_
    refine t_op (t_cb1 (t_op (t_op (t_op (t_var rfl (t_c (at1 hp (t_c ⟨_, _, rfl, rfl, wide_mul (a := 40) (b := 16) hy (by decide) (by decide) (by decide) (by decide), t_c ⟨_, _, rfl, rfl, ?_⟩⟩)))))))) 
    refine .inl ⟨_, rfl, t_c ⟨_, _, rfl, rfl, (by decide : (0 : Int) < 2147483497), ?_⟩⟩
    have zb : ((y * 48271 + 20011) % 2147483497).natAbs < 2 ^ 31 := by
      have h1 := Int.emod_nonneg (y * 48271 + 20011) (show (2147483497 : Int) ≠ 0 by decide)
      have h2 := Int.emod_lt_of_pos (y * 48271 + 20011) (show (0 : Int) < 2147483497 by decide)
      omega
    refine t_var rfl (t_c ⟨p, _, 1, 1, rfl, rfl, hp, rfl, nx_of ?_⟩)
    have hp2 : (upd H p (.lst [V.int x, V.int ((y * 48271 + 20011) % 2147483497)])) p = some (.lst [.int x, .int ((y * 48271 + 20011) % 2147483497)]) := upd_same
    have b2 : SameBut p H (upd H p (.lst [V.int x, V.int ((y * 48271 + 20011) % 2147483497)])) := bmut (sbut (Same.refl H))
    refine s_ret (t_op (t_cb1 (t_op (t_op (t_cb1 (t_op (t_op (t_var rfl (t_c (at1 hp2 (t_op (t_var rfl (t_c (at1 hp2 ⟨_, _, rfl, rfl, wide_mul (a := 31) (b := 31) zb zb (by decide) (by decide) (by decide), ?_⟩))))))))))))))
    refine .inl ⟨_, rfl, t_c ⟨_, _, rfl, rfl, (by decide : (0 : Int) < 2147483549), t_c ⟨_, _, rfl, rfl, ⟨by decide, by decide +kernel⟩, ?_⟩⟩⟩
    refine .inl ⟨_, rfl, t_var rfl ⟨_, _, rfl, rfl, (show (0 : Int) < (m : Nat) by omega), ?_⟩⟩
    obtain ⟨d, hd, e⟩ := dig ((y * 48271 + 20011) % 2147483497 * ((y * 48271 + 20011) % 2147483497) % 2147483549 / 19)
    have fin : Q (.int ((y * 48271 + 20011) % 2147483497 * ((y * 48271 + 20011) % 2147483497) % 2147483549 / 19 % (m : Nat))) (upd H p (.lst [V.int x, V.int ((y * 48271 + 20011) % 2147483497)])) := by
      rw [e]; exact q d _ hd b2 ⟨_, _, hp2, Nat.lt_of_lt_of_le zb (by decide)⟩
    exact fin
/-- one of a list -/
def spPick (K : PySem.W.Frag) : Sp := fun vs H Q _ => ∃ (p l : Addr) (xs : List V), vs = [.ref p, .ref l] ∧ PotAt H p ∧ (∀ H', SameBut p H H' → SqL K H' l xs) ∧ 0 < xs.length ∧ xs.length < 1000 ∧ ∀ (d : Nat) x H', xs[d]? = some x → SameBut p H H' → PotAt H' p → Q x H'
theorem sql_but {K : PySem.W.Frag} {H H' : Hp} {p l : Addr} {xs : List V} (h : SqL K H l xs) (e : SameBut p H H') (n : l ≠ p) : SqL K H' l xs := by
  rcases h with (h | ⟨o, h⟩) | h
  · exact .inl (.inl (e _ _ n h))
  · exact .inl (.inr ⟨o, e _ _ n h⟩)
  · exact .inr h
theorem ok__law_pick (T : Txt K mg a fd C tk) : FnOk P w K mg base CX0 2 (a 18) (fd 18) ["_law_pot_here", "_law_some"] (spPick K) := by
  have G__law_draw := ok__law_draw (P := P) (w := w) (base := base) T
  refine T.F__law_pick.ok sc__law_pick (fun vs H Q E h => by obtain ⟨_, _, _, rfl, _⟩ := h; rfl) (fun cdv A outer s H vs Q E hr h => ?_)
  obtain ⟨p, l, xs, rfl, hp, hl, x0, x1, q⟩ := h
  refine ⟨_, (pss_one (ps_ret (pe_ix (k_ix (K := K)) (pv 1) (pe_call G__law_draw (hr.mono (by omega)) (by rfl) T.m__law_draw T.F__law_draw.kp T.b__law_draw .nil pass0 (pa_cons (pv 0) (pa_cons (pe_callB (k_len (K := K)) (by rfl) T.z_len (by decide +kernel) (pa_cons (pv 1) pa_nil)) pa_nil))) (fun _ _ => rfl)))), ?_⟩
  refine s_ret (t_op (t_var rfl (t_call2 (t_var rfl (t_cb1 (t_var rfl ⟨l, xs, rfl, .inl (hl H (sbut (Same.refl H))), ⟨p, xs.length, rfl, hp, x0, by omega, fun d H' hd sb hp' => ?_⟩⟩))))))
  exact .inl ⟨l, xs, ((d : Nat) : Int), xs[d], rfl, rfl, hl H' sb, atI_nat (by simp [hd]), q d _ H' (by simp [hd]) sb hp'⟩
end
end K31

set_option maxRecDepth 100000
set_option maxHeartbeats 1000000
/-! promises whose results share nothing with what is told ahead -/
namespace Kh
open PySem PySem.Spec PyProof.Rows L2
/-- data in new lists and tuples, all of them tracked -/
inductive Np (H : Hp) : V → PyData → Prop where
  | int (i : Int) : Np H (.int i) (.int i)
  | str (x : Str) : Np H (.str x) (.str x)
  | lst {a : Addr} {xs : List V} {ds : List PyData} (h : H a = some (.lst xs)) (l : xs.length = ds.length) (t : ∀ (i : Nat) x d, xs[i]? = some x → ds[i]? = some d → Np H x d) : Np H (.ref a) (.list ds)
  | tup {a : Addr} {xs : List V} {ds : List PyData} (h : H a = some (.tup xs)) (l : xs.length = ds.length) (t : ∀ (i : Nat) x d, xs[i]? = some x → ds[i]? = some d → Np H x d) : Np H (.ref a) (.tuple ds)
theorem Np.same {H H' : Hp} (e : Same H H') {v : V} {d : PyData} (h : Np H v d) : Np H' v d := by
  induction h with
  | int i => exact .int i
  | str x => exact .str x
  | lst h l t ih => exact .lst (e _ _ h) l ih
  | tup h l t ih => exact .tup (e _ _ h) l ih
theorem Np.dp {K : PySem.W.Frag} {H : Hp} {v : V} {d : PyData} (h : Np H v d) : Dp K H v d := by
  induction h with
  | int i => exact .int i
  | str x => exact .str x
  | lst h l t ih => exact .lst (sqL h) (dpa_of l ih)
  | tup h l t ih => exact .tup (sqT h) (dpa_of l ih)
/-- what the results are told by -/
structure Rp (R : Hp → V → PyData → Prop) : Prop where
  same : ∀ {H H' : Hp} {v : V} {d : PyData}, Same H H' → R H v d → R H' v d
  lst : ∀ {H : Hp} {a : Addr} {xs : List V} {ds : List PyData}, H a = some (.lst xs) → xs.length = ds.length → (∀ (i : Nat) x d, xs[i]? = some x → ds[i]? = some d → R H x d) → R H (.ref a) (.list ds)
theorem rp_np : Rp Np := ⟨fun e h => h.same e, fun h l t => .lst h l t⟩
theorem rp_dp (K : PySem.W.Frag) : Rp (Dp K) := ⟨fun e h => dp_same e _ _ h, fun h l t => .lst (sqL h) (dpa_of l t)⟩
/-- what is read lies out of S, what is made out of S2 -/
def spN {α : Type} (R : Hp → V → PyData → Prop) (K : PySem.W.Frag) (enc : α → List PyData) (pre : α → Prop) (f : α → PyData) : Sp := fun vs H Q _ => ∃ (S S2 : Addr → Prop) (x : α), (∀ a, S a → S2 a) ∧ Kn S2 H ∧ DpAll K (off S H) vs (enc x) ∧ pre x ∧
  ∀ v H', Same H H' → R (off S2 H') v (f x) → Q v H'
theorem spN_len {α : Type} {R : Hp → V → PyData → Prop} {K : PySem.W.Frag} {enc : α → List PyData} {pre : α → Prop} {f : α → PyData} {vs : List V} {H : Hp} {Q : VK} {E : XK} {n : Nat} (hn : ∀ x, (enc x).length = n) (h : spN R K enc pre f vs H Q E) : vs.length = n := by
  obtain ⟨S, S2, x, _, _, hd, _⟩ := h
  rw [← hn x]; exact dpa_len hd
theorem spN_P {α : Type} {R : Hp → V → PyData → Prop} {K : PySem.W.Frag} {enc : α → List PyData} {pre : α → Prop} {f : α → PyData} {vs : List V} {H : Hp} {Q : VK} {E : XK} (hR : ∀ {H v d}, R H v d → Dp K H v d) (h : spP K enc pre f vs H Q E) : spN R K enc pre f vs H Q E := by
  obtain ⟨S, x, kn, hd, hp, q⟩ := h
  exact ⟨S, S, x, fun _ z => z, kn, hd, hp, fun v H' s h => q v H' s (hR h)⟩
theorem lc_datN {R : Hp → V → PyData → Prop} (rp : Rp R) {K : PySem.W.Frag} {S S2 : Addr → Prop} {H1 : Hp} {σ : L2.St} {te : TE} {sl : Nat} {vs : List Nat} {Qd : VK} {J : It} {xs : List V} {ds : List PyData} (f : Nat → PyData) (h12 : ∀ a, S a → S2 a)
    (w : Walk J xs.length (fun H' => Same (off S H1) H') (YAt xs)) (ha : DpAll K (off S H1) xs ds) (kn : Kn S2 H1) (hn : ds.length ≤ 100000) (hw : ∀ x, wipe ((wipe σ vs).set sl (some x)) vs = wipe σ vs)
    (body : ∀ j x d H Sa Sb, ds[j]? = some d → Same H1 H → (∀ a, Sa a → Sb a) → Kn Sb H → Dp K (off Sa H) x d → (∀ a, S2 a → Sb a) → ∀ Q : VK, (∀ y H', Same H H' → R (off Sb H') y (f j) → Q y H') → te ((wipe σ vs).set sl (some x)) H Q)
    (done : ∀ D H ys, H1 D = none → Same H1 H → H D = some (.lst ys) → R (off S2 H) (.ref D) (.list ((List.range ds.length).map f)) → Qd (.ref D) H) :
    ∀ D, H1 D = none → ∃ W : Nat → Nat → Hp → Prop, (∃ m, W 0 m (upd H1 D (.lst []))) ∧ ∀ i m H, W i m H →
      (J.stop i H ∧ Qd (.ref D) H) ∨ (J.go i H ∧ ∃ Nx : Hp → Prop, (∀ H', Nx H' → ∃ m', m' < m ∧ W (i + 1) m' H') ∧ ∀ x H', J.yld i H x H' → gName sl x (wipe σ vs) H' fun σ2 H2 => wipe σ2 vs = wipe σ vs ∧ tYes σ2 H2 fun b H3 =>
        if b = true then te σ2 H3 fun y H4 => ∃ acc, H4 D = some (.lst acc) ∧ acc.length < sizeLine ∧ Nx (upd H4 D (.lst (acc ++ [y]))) else Nx H3) := by
  intro D hD
  have ln := dpa_len ha
  refine lc_map (Qd := Qd (.ref D)) w (fun j x => xs[j]? = some x) (fun i H x H' _ y => y) (fun j y H => R (off (plus S2 D) H) y (f j)) (fun H s => off_sub.trans s) hD (by omega) hw (fun j y H H' e h => rp.same (off_but e) h) (fun j x H hj xj s hd Q q => ?_) (fun ys H hl py s hd => ?_)
  · obtain ⟨d, dj, dx⟩ := dpa_at ha xj
    exact body j x d H (plus S D) (plus S2 D) dj s (fun a z => z.imp (h12 a) id) ((kn.same s).plus hd) (dp_same (off_plus hD s) _ _ dx) (fun _ h => .inl h) Q q
  · refine done D H ys hD s hd (rp.lst (by rw [off_out (kn.new hD)]; exact hd) (by simp [hl, ln]) fun i v d h1 h2 => rp.same (off_fin (D := D)) ?_)
    have hi : i < ds.length := by
      have := (List.getElem?_eq_some_iff.mp h1).1
      omega
    rw [List.getElem?_map, List.getElem?_range hi] at h2
    cases h2
    exact py i v h1
theorem lc_seqN {R : Hp → V → PyData → Prop} (rp : Rp R) {K : PySem.W.Frag} {S S2 : Addr → Prop} {H : Hp} {σ : L2.St} {t te : TE} {sl : Nat} {vs : List Nat} {Q : VK} {b : Bool} {ds : List PyData} (f : Nat → PyData) (h12 : ∀ a, S a → S2 a) (kn : Kn S2 H)
    (hev : ∀ Q : VK, (∀ u H1, Same H H1 → Dp K (off S H1) u (sq b ds) → Q u H1) → t σ H Q) (hn : ds.length ≤ 100000) (hw : ∀ x, wipe ((wipe σ vs).set sl (some x)) vs = wipe σ vs)
    (body : ∀ j x d H1 Sa Sb, ds[j]? = some d → Same H H1 → (∀ a, Sa a → Sb a) → Kn Sb H1 → Dp K (off Sa H1) x d → (∀ a, S2 a → Sb a) → ∀ Q : VK, (∀ y H', Same H1 H' → R (off Sb H') y (f j) → Q y H') → te ((wipe σ vs).set sl (some x)) H1 Q)
    (done : ∀ D H1 ys, H D = none → Same H H1 → H1 D = some (.lst ys) → R (off S2 H1) (.ref D) (.list ((List.range ds.length).map f)) → Q (.ref D) H1) :
    tLc (fun σ H R => iList K t σ H R ∨ iTup K t σ H R) (gName sl) tYes te vs σ H Q :=
  it_any hev fun J xs H1 s ha w => lc_datN rp f h12 w ha (kn.same s) hn hw (fun j x d H2 Sa Sb dj s2 hab kn2 dx hS Q q => body j x d H2 Sa Sb dj (s.trans s2) hab kn2 dx hS Q q)
    fun D H2 ys hD s2 hd h => done D H2 ys (s.free hD) (s.trans s2) hd h
/-- all that is known -/
def old (H : Hp) : Addr → Prop := fun a => H a ≠ none
theorem kn_old {H : Hp} : Kn (old H) H := fun _ h => h
theorem old_of {S : Addr → Prop} {H : Hp} (k : Kn S H) : ∀ a, S a → old H a := k
/-- [y for x, y in pairs] -/
theorem lc_pair {K : PySem.W.Frag} {S : Addr → Prop} {H : Hp} {σ : L2.St} {t : TE} {s1 s2 : Nat} {vs : List Nat} {Q : VK} (Pd : List (PyData × PyData) → Prop) (kn : Kn S H)
    (hev : ∀ Q : VK, (∀ u H1 ds, Same H H1 → Pd ds → Dp K (off S H1) u (.list (ds.map fun d => .tuple [d.1, d.2])) → Q u H1) → t σ H Q) (hn : ∀ ds, Pd ds → ds.length ≤ 100000)
    (hw : ∀ x y, wipe (((wipe σ vs).set s1 (some x)).set s2 (some y)) vs = wipe σ vs) (hg : ∀ x y, (((wipe σ vs).set s1 (some x)).set s2 (some y))[s2]? = some (some y))
    (done : ∀ D H1 ys ds, Pd ds → H D = none → Same H H1 → H1 D = some (.lst ys) → Dp K (off S H1) (.ref D) (.list (ds.map Prod.snd)) → Q (.ref D) H1) :
    tLc (fun σ H R => iList K t σ H R ∨ iTup K t σ H R) (gTup K 2 (gCons (gName s1) (gCons (gName s2) gNil))) tYes (tVar s2) vs σ H Q := by
  refine .inl (hev _ fun u H1 ds s pd du => ?_)
  obtain ⟨ra, xs, rfl, hsq, ha⟩ := list_at du
  have hn := hn ds pd
  refine ⟨ra, rfl, ⟨xs, off_sub.seq hsq⟩, fun D hD => ?_⟩
  have w : Walk (Itl K ra) xs.length (fun H' => Same (off S H1) H') (YAt xs) := walk_list.mono (fun H' z => z.seq hsq) fun _ _ _ _ _ _ y => y
  have ln := dpa_len ha
  rw [List.length_map] at ln
  refine wlk w (fun x H' Nx => gTup K 2 (gCons (gName s1) (gCons (gName s2) gNil)) x (wipe σ vs) H' fun σ2 H2 => wipe σ2 vs = wipe σ vs ∧ tYes σ2 H2 fun b H3 => if b = true then tVar s2 σ2 H3 fun y H4 => ∃ acc, H4 D = some (.lst acc) ∧ acc.length < sizeLine ∧ Nx (upd H4 D (.lst (acc ++ [y]))) else Nx H3)
    (fun i H' => ∃ ys, DpAll K (off (plus S D) H') ys ((ds.take i).map Prod.snd) ∧ Same H1 H' ∧ H' D = some (.lst ys)) ⟨[], .nil, same_new hD, upd_same⟩ (fun i H' _ ⟨_, _, z, _⟩ => off_sub.trans z) ?_ ?_
  · rintro i x H2 H3 hi ⟨ys, py, z, hd⟩ ⟨rfl, xi⟩
    obtain ⟨d, dj, dx⟩ := dpa_at ha xi
    rw [List.getElem?_map] at dj
    cases di : ds[i]? with
    | none => rw [di] at dj; cases dj
    | some e =>
      rw [di] at dj
      obtain rfl := (Option.some.inj dj).symm
      obtain ⟨p, us, rfl, hs, hu⟩ := tup_at (dp_same (off_plus hD z) _ _ dx)
      obtain - | ⟨h1, - | ⟨h2, ⟨⟩⟩⟩ := hu
      rename_i u1 u2
      have hl : ys.length ≤ 100000 := by
        have := dpa_len py
        rw [List.length_map, List.length_take] at this
        omega
      refine ⟨p, _, rfl, same_t off_sub hs, rfl, u1, _, rfl, u2, _, rfl, rfl, hw u1 u2, t_yes ⟨u2, hg u1 u2, ys, hd, Nat.lt_of_le_of_lt hl (by decide), ys ++ [u2], ?_, smut z hD, upd_same⟩⟩
      rw [off_mut (show plus S D D from .inr rfl), List.take_add_one, di, List.map_append]
      exact dpa_app py (.cons h2 .nil)
  · rintro H2 ⟨ys, py, z, hd⟩
    refine done D H2 ys ds pd (s.free hD) (s.trans z) hd (dp_lst ((kn.same s).new hD) hd ?_)
    rw [ln, List.take_length] at py
    exact dpa_same (off_fin (D := D)) _ _ py
end Kh

set_option maxRecDepth 100000
set_option maxHeartbeats 2000000
/-! static methods; repr of data -/
namespace Kh
open PySem PySem.Spec PyProof.Rows L2
/-- C.m is a static method: its record at p, its def at g -/
structure SMet (K : PySem.W.Frag) (C : Addr) (mc : Value) (m : Str) (p g : Addr) : Prop where
  rd : PySem.W.readsIn K C mc = true
  ga : PySem.W.specialIn K (.ref C) "__getattribute__" = some (some (.builtin "type.__getattribute__"))
  at_ : PySem.W.findCls K (.ref C) mc m = some (.get (.builtin "staticmethod.__get__") (.ref p) .none (.ref C))
  rc : ∃ rest, PySem.W.recIn K p "staticmethod" = some (.ref g :: rest)
  kp : PySem.W.keepIn K (.ref g) = true
def tSMeth (C : Addr) (sp : Sp) (E : XK) (ta : TE) (t : TA) : TE := fun σ H Q => ta σ H fun x H1 => x = .ref C ∧ t σ H1 fun vs H2 => sp vs H2 Q E
section
variable {X : Cx} {CX : CXT} {k : Nat} {C p g : Addr} {mc : Value} {sp : Sp} {E : XK} {o e : Expr} {es : List Expr} {f m : Str} {pos apos : Pos} {ta : TE} {t : TA} {pl : Sem Bool}
theorem pe_smeth (he : PE X o ta) (c : SMet X.K C mc m p g) (F : FnR X.prog X.w X.K X.mg X.base CX k g sp) (hr : Room k X.A) (hx : Passes CX X E) (ha : PA X (e :: es) t)
    (hst : starEach (e :: es) X.env = (false, eval e X.env) :: starEach es X.env := by rfl) (hpl : (backTo pos (starEach es X.env)).any (·.1) = false := by rfl)
    (ht : eval (.Call (.Attribute o m apos) (e :: es) [] pos) X.env = (do
      let ov ← eval o X.env; standAt apos.atName; let (f, first) ← holding [ov] (getMethod ov m pl); callWith pos f first (backTo pos (starEach (e :: es) X.env)) (backToKw pos (keywordEach [] X.env))) := by rfl) :
    PE X (.Call (.Attribute o m apos) (e :: es) [] pos) (tSMeth C sp E ta t) := by
  refine ⟨fun pins s σ H Q I h => ?_⟩
  refine PySem.W.methodCall_KW (pl := pl) (thn (he.run pins s σ H _ I h) fun u s1 ⟨x, H1, I1, rx, ex, q⟩ => ?_) ht
  subst ex
  obtain rfl : u = Value.ref C := rx
  obtain ⟨rest, hp⟩ := c.rc
  refine PySem.W.method_cls I1.kIn c.ga (PySem.W.cls_bind I1.kIn c.rd c.at_ (wpAny_call (PySem.W.sm_get (s := { s1 with toks := s1.toks + 1 }) I1.kIn hp (PySem.W.handed_on rfl ?_))))
  have I2 := I1.tok (s1.toks + 1)
  refine PySem.W.callWith_K (first := []) (h₀ := X.base) I2.ok.mod.kin c.kp (thn (ha.run pos pins _ σ H1 _ I2 q) fun us s3 ⟨vs, H2, I3, rv, q2⟩ => ⟨I3.kIn, ?_⟩) hst hpl
  exact wpAny_call (run_fnR F hr hx I3 rv q2)
end
/-- what repr can tell -/
def Tells (K : PySem.W.Frag) (H : Hp) (v : V) (d : PyData) : Prop := Dp K H v d ∧ (∃ n m, Nice n m d ∧ n ≤ 1000000 ∧ m ≤ 60) ∧ ((∃ i, d = .int i) ∨ ∃ ds, items d = some ds)
def rReprD (K : PySem.W.Frag) : List V → Hp → VK → Prop := fun vs H Q => ∃ v d, vs = [v] ∧ Tells K H v d ∧ Q (.str d.shown) H
def tFmtD (K : PySem.W.Frag) (te : TE) : TE := fun σ H Q => te σ H fun x H1 => ∃ d, Tells K H1 x d ∧ Q (.str d.shown) H1
section
variable {X : Cx}
theorem cr_reprD (hg : X.A.guards = some []) (hu : X.A.units + 64 < cLine) : CallR X (.builtin "repr") (rReprD X.K) := by
  intro pins s σ H vs us Q I r h
  obtain ⟨v, d, rfl, ⟨hd, ⟨n, m, hn, hn1, hm1⟩, kind⟩, q⟩ := h
  obtain ⟨u, rfl, ru⟩ := r.one
  rcases kind with ⟨i, rfl⟩ | ⟨ds, hds⟩
  · cases hd
    obtain ⟨t, rfl⟩ := ru
    have hz : i.natAbs.log2 < 1920 := by have := hn.sw; rw [PyData.showable] at this; exact of_decide_eq_true this
    rw [PyData.shown] at q
    exact PySem.P.repr_of_int hz ⟨.str (toString i), H, I.tok _, ⟨_, rfl⟩, q⟩
  · obtain ⟨b, xs, rfl, _, _⟩ := items_at hd hds
    have ru' := ru
    cases ru
    obtain ⟨as, rd⟩ := Dp.reads I d (.ref b) _ hd ru'
    refine repr_of_reads' rd hn.sw (fun z => by rw [hn.nd] at z; cases z) hg (by have := hn.dp; omega) (fun _ _ z => z) (fun h' u tk kp => ?_) (hn.fits hn1)
    exact ⟨.str d.shown, H, I.kept (t' := tk) kp, ⟨u, rfl⟩, q⟩
theorem pe_fmtD {e : Expr} {te : TE} {pos : Pos} (hg : X.A.guards = some []) (hu : X.A.units + 64 < cLine) (he : PE X e te) : PE X (.FormattedValue e 114 none pos) (tFmtD X.K te) := by
  refine ⟨fun pins s σ H Q I h => ?_⟩
  refine wpAny_FormattedValue_repr (thn (he.run pins s σ H _ I h) fun u s1 hv => ?_)
  obtain ⟨x, H1, I1, r1, d, ⟨hd, ⟨n, m, hn, hn1, hm1⟩, kind⟩, q⟩ := hv
  rcases kind with ⟨i, rfl⟩ | ⟨ds, hds⟩
  · cases hd
    obtain ⟨t, rfl⟩ := r1
    have hz : i.natAbs.log2 < 1920 := by have := hn.sw; rw [PyData.showable] at this; exact of_decide_eq_true this
    rw [PyData.shown] at q
    exact pyReprObj_int hz (wpAny_formatField_str ⟨.str (toString i), H1, I1.tok _, ⟨_, rfl⟩, q⟩ ⟨.str (toString i), H1, I1.tok _, ⟨_, rfl⟩, q⟩ (int_text_fits hz))
  · obtain ⟨b, xs, rfl, _, _⟩ := items_at hd hds
    have ru' := r1
    cases r1
    obtain ⟨as, rd⟩ := Dp.reads I1 d (.ref b) _ hd ru'
    refine pyReprObj_of_reads rd hn.sw (fun z => by rw [hn.nd] at z; cases z) hg (by have := hn.dp; omega) (fun _ _ z => z) (fun h' u tk kp => ?_) (hn.fits hn1)
    have I2 := I1.kept (t' := tk) kp
    exact wpAny_formatField_str ⟨.str d.shown, H1, I2, ⟨_, rfl⟩, q⟩ ⟨.str d.shown, H1, I2.tok _, ⟨_, rfl⟩, q⟩ (hn.fits hn1)
end
/-! keywords -/
theorem kbn_of {K : PySem.W.Frag} {fd : FuncData} {ps ks : List Str} {n : Nat} (h : ∀ us ws : List Value, us.length = n → ws.length = ks.length → bindArgs fd ⟨us, ks.zip ws⟩ = pure (ps.zip (us ++ ws))) : KBn K fd ps n ks (fun us ws => us ++ ws) (fun vs zs => vs ++ zs) :=
  ⟨fun s us ws _ h1 h2 => .of_eq (h us ws h1 h2), fun r1 r2 => r1.append r2⟩
section
variable {X : Cx} {k n : Nat} {f C : Addr} {fd : FuncData} {ps ks : List Str} {sp : Sp} {x m : Str} {p pos apos : Pos} {o : Expr} {kws : List Keyword} {ta : TE} {tk : TA} {pl : Sem Bool}
theorem run_kw {pins : List (Addr × Obj)} {σ : L2.St} {H : Hp} {s : Shared} {Q : VK} {us ws : List Value} {vs zs : List V} (F : FnOk X.prog X.w X.K X.mg X.base CX0 k f fd ps sp) (hr : Room k X.A) (hb : KBn X.K fd ps n ks (fun us ws => us ++ ws) (fun vs zs => vs ++ zs))
    (I : Inv X pins σ H s) (r : Vals vs us) (rz : Vals zs ws) (l1 : us.length = n) (l2 : ws.length = ks.length) (h : sp (vs ++ zs) H Q E0) : wpAny (model X.prog X.w) X.A (call (.ref f) us (ks.zip ws)) (EP X pins σ Q) X.xe s := by
  have r2 := hb.rel r rz
  refine wpAny_call (codeAny_mono (F.run X.A X.stack s H ⟨us, ks.zip ws⟩ (us ++ ws) (vs ++ zs) Q E0 hr I.env0 (hb.to s us ws I.kIn l1 l2) r2 h) fun r s' hq => ?_)
  cases r with
  | error e => exact (show False from hq).elim
  | ok fl =>
    cases fl with
    | ret u => exact I.after hq
    | next => exact (show False from hq).elim
    | brk => exact (show False from hq).elim
    | cont => exact (show False from hq).elim
def tCallK0 (n : Nat) (sp : Sp) (tk : TA) : TE := fun σ H Q => tk σ H fun zs H2 => zs.length = n ∧ sp zs H2 Q E0
/-- f(k = v) -/
theorem pe_kw0 (F : FnOk X.prog X.w X.K X.mg X.base CX0 k f fd ps sp) (hr : Room k X.A) (hg : Gl X x) (hm : X.mg x = some (.ref f)) (hk : PySem.W.keepIn X.K (.ref f) = true) (hb : KBn X.K fd ps 0 ks (fun us ws => us ++ ws) (fun vs zs => vs ++ zs)) (hkw : PK X kws tk)
    (hall : (backToKw pos (keywordEach kws X.env)).all (·.1.isSome) = true := by rfl) (hks : (backToKw pos (keywordEach kws X.env)).filterMap (·.1) = ks := by rfl) (hdb : (x == ("__debug__" : Str)) = false := by decide)
    (hpl : ((backTo pos (starEach [] X.env)).any (·.1) || (backToKw pos (keywordEach kws X.env)).any (·.1.isNone)) = false := by rfl) :
    PE X (.Call (.Name x p) [] kws pos) (tCallK0 ks.length sp tk) := by
  refine ⟨fun pins s σ H Q I h => ?_⟩
  refine wpAny_Call_Name_kw (ld_glob I hg hm ?_ hdb)
  refine PySem.W.callWith_KW0 (h₀ := X.base) I.ok.mod.kin hk hall ?_ hpl
  refine thn (hkw.run pos pins s σ H _ I h) fun ws s2 ⟨zs, H2, I2, rz, l2, q2⟩ => ⟨I2.kIn, ?_⟩
  rw [hks]
  exact run_kw (us := []) (vs := []) F hr hb I2 .nil rz rfl (rz.length.symm.trans l2) q2
def tMethK0 (C : Addr) (m : Str) (n : Nat) (sp : Sp) (ta : TE) (tk : TA) : TE := fun σ H Q => ta σ H fun x H1 => ∃ a dx fs, x = .ref a ∧ H1 a = some (.ins C dx fs) ∧ fs.lookup m = none ∧ tk σ H1 fun zs H2 => zs.length = n ∧ sp (x :: zs) H2 Q E0
/-- o.m(k = v) -/
theorem pe_methK0 (he : PE X o ta) (c : Cls X.K C) (hm : Meth X.K C m f) (F : FnOk X.prog X.w X.K X.mg X.base CX0 k f fd ps sp) (hr : Room k X.A) (hb : KBn X.K fd ps 1 ks (fun us ws => us ++ ws) (fun vs zs => vs ++ zs)) (hkw : PK X kws tk)
    (hall : (backToKw pos (keywordEach kws X.env)).all (·.1.isSome) = true := by rfl) (hks : (backToKw pos (keywordEach kws X.env)).filterMap (·.1) = ks := by rfl)
    (hpl : ((backTo pos (starEach [] X.env)).any (·.1) || (backToKw pos (keywordEach kws X.env)).any (·.1.isNone)) = false := by rfl)
    (ht : eval (.Call (.Attribute o m apos) [] kws pos) X.env = (do
      let ov ← eval o X.env; standAt apos.atName; let (f, first) ← holding [ov] (getMethod ov m pl); callWith pos f first (backTo pos (starEach [] X.env)) (backToKw pos (keywordEach kws X.env))) := by rfl) :
    PE X (.Call (.Attribute o m apos) [] kws pos) (tMethK0 C m ks.length sp ta tk) := by
  refine ⟨fun pins s σ H Q I h => ?_⟩
  refine PySem.W.methodCall_KW (pl := pl) (thn (he.run pins s σ H _ I h) fun u s1 ⟨x, H1, I1, rx, a, dx, fs, ex, ea, l, q⟩ => ?_) ht
  subst ex
  obtain rfl : u = Value.ref a := rx
  refine getmeth_ok I1 ea c hm l ?_
  refine PySem.W.callWith_KW0 (first := [.ref a]) (h₀ := X.base) I1.ok.mod.kin hm.kp hall ?_ hpl
  refine thn (hkw.run pos pins s1 σ H1 _ I1 q) fun ws s2 ⟨zs, H2, I2, rz, l2, q2⟩ => ⟨I2.kIn, ?_⟩
  rw [hks]
  exact run_kw (us := [.ref a]) (vs := [.ref a]) F hr hb I2 (.cons rfl .nil) rz rfl (rz.length.symm.trans l2) q2
end
end Kh

set_option maxRecDepth 100000
set_option maxHeartbeats 1000000
/-! x in a list of data; f(k2 = v, k1 = u) -/
namespace Kh
open PySem PySem.Spec PyProof.Rows L2
theorem k_inD {X : Cx} {K : PySem.W.Frag} {k : Nat} (hr : Room k X.A) (h : X.K = K := by rfl) : OpR X (compareOp .In) (rInD K) := by subst h; exact op_inD (by have := hr.un; omega)
theorem vals_rev : ∀ {vs : List V} {us : List Value}, Vals vs us → Vals vs.reverse us.reverse
  | _, _, .nil => .nil
  | _, _, .cons r t => by rw [List.reverse_cons, List.reverse_cons]; exact (vals_rev t).append (.cons r .nil)
theorem kbr_of {K : PySem.W.Frag} {fd : FuncData} {ps ks : List Str} (h : ∀ ws : List Value, ws.length = ks.length → bindArgs fd ⟨[], ks.zip ws⟩ = pure (ps.zip ws.reverse)) : KBn K fd ps 0 ks (fun us ws => us ++ ws.reverse) (fun vs zs => vs ++ zs.reverse) :=
  ⟨fun s us ws _ h1 h2 => by
    rw [List.eq_nil_of_length_eq_zero h1]
    exact .of_eq (h ws h2), fun r1 r2 => r1.append (vals_rev r2)⟩
section
variable {X : Cx} {k : Nat} {f : Addr} {fd : FuncData} {ps ks : List Str} {sp : Sp} {x : Str} {p pos : Pos} {kws : List Keyword} {tk : TA}
def tCallKR (n : Nat) (sp : Sp) (tk : TA) : TE := fun σ H Q => tk σ H fun zs H2 => zs.length = n ∧ sp zs.reverse H2 Q E0
/-- f(k2 = v, k1 = u), the names the other way round -/
theorem pe_kwR (F : FnOk X.prog X.w X.K X.mg X.base CX0 k f fd ps sp) (hr : Room k X.A) (hg : Gl X x) (hm : X.mg x = some (.ref f)) (hk : PySem.W.keepIn X.K (.ref f) = true) (hb : KBn X.K fd ps 0 ks (fun us ws => us ++ ws.reverse) (fun vs zs => vs ++ zs.reverse)) (hkw : PK X kws tk)
    (hall : (backToKw pos (keywordEach kws X.env)).all (·.1.isSome) = true := by rfl) (hks : (backToKw pos (keywordEach kws X.env)).filterMap (·.1) = ks := by rfl) (hdb : (x == ("__debug__" : Str)) = false := by decide)
    (hpl : ((backTo pos (starEach [] X.env)).any (·.1) || (backToKw pos (keywordEach kws X.env)).any (·.1.isNone)) = false := by rfl) :
    PE X (.Call (.Name x p) [] kws pos) (tCallKR ks.length sp tk) := by
  refine ⟨fun pins s σ H Q I h => ?_⟩
  refine wpAny_Call_Name_kw (ld_glob I hg hm ?_ hdb)
  refine PySem.W.callWith_KW0 (h₀ := X.base) I.ok.mod.kin hk hall ?_ hpl
  refine thn (hkw.run pos pins s σ H _ I h) fun ws s2 ⟨zs, H2, I2, rz, l2, q2⟩ => ⟨I2.kIn, ?_⟩
  rw [hks]
  refine wpAny_call (codeAny_mono (F.run X.A X.stack s2 H2 ⟨[], ks.zip ws⟩ ([] ++ ws.reverse) ([] ++ zs.reverse) Q E0 hr I2.env0 (hb.to s2 [] ws I2.kIn rfl (rz.length.symm.trans l2)) (hb.rel .nil rz) q2) fun r s' hq => ?_)
  cases r with
  | error e => exact (show False from hq).elim
  | ok fl =>
    cases fl with
    | ret u => exact I2.after hq
    | next => exact (show False from hq).elim
    | brk => exact (show False from hq).elim
    | cont => exact (show False from hq).elim
end
end Kh

set_option maxRecDepth 100000
set_option maxHeartbeats 1000000
/-! comprehensions over zip -/
namespace Kh
open PySem PySem.Spec PyProof.Rows L2
theorem lcZ {α β : Type} {K : PySem.W.Frag} {S : Addr → Prop} {H : Hp} {σ : L2.St} {ta : TA} {te : TE} {s1 s2 : Nat} {vs : List Nat} {Q : VK} (ms : List α) (ns : List β) (f : α → PyData) (f2 : β → PyData) (g : α × β → PyData) (kn : Kn S H)
    (hev : ∀ Q : List V → Hp → Prop, (∀ u1 u2 H1, Same H H1 → Dp K (off S H1) u1 (.list (ms.map f)) → Dp K (off S H1) u2 (.list (ns.map f2)) → Q [u1, u2] H1) → ta σ H Q) (hn : ms.length ≤ 100000)
    (hw : ∀ x y, wipe (((wipe σ vs).set s1 (some x)).set s2 (some y)) vs = wipe σ vs)
    (body : ∀ m n, (m, n) ∈ ms.zip ns → ∀ x y H1 S', Same H H1 → Kn S' H1 → Dp K (off S' H1) x (f m) → Dp K (off S' H1) y (f2 n) → (∀ a, S a → S' a) → Same (off S H) (off S' H1) → ∀ Q : VK, (∀ z H', Same H1 H' → Dp K (off S' H') z (g (m, n)) → Q z H') → te (((wipe σ vs).set s1 (some x)).set s2 (some y)) H1 Q)
    (done : ∀ D H1 ys, H D = none → Same H H1 → H1 D = some (.lst ys) → Dp K (off S H1) (.ref D) (.list ((ms.zip ns).map g)) → Q (.ref D) H1) :
    tLc (iZip K ta) (gTup K 2 (gCons (gName s1) (gCons (gName s2) gNil))) tYes te vs σ H Q := by
  refine hev _ fun u1 u2 H1 s h1 h2 => ?_
  obtain ⟨ra, xs, rfl, hsa, ha⟩ := list_at h1
  obtain ⟨rb, ys, rfl, hsb, hb⟩ := list_at h2
  refine ⟨ra, rb, xs, ys, rfl, off_sub.seq hsa, off_sub.seq hsb, fun D hD => ?_⟩
  have la := dpa_len ha
  have lb := dpa_len hb
  rw [List.length_map] at la lb
  have kn1 := kn.same s
  have hG : ∀ H', Same H1 H' → SqL K H' ra xs ∧ SqL K H' rb ys := fun H' z => ⟨(off_sub.trans z).seq hsa, (off_sub.trans z).seq hsb⟩
  refine wlk (walk_zip (K := K) (a := ra) (b := rb) (xs := xs) (ys := ys) (n := (ms.zip ns).length) (by rw [List.length_zip, la, lb])) (fun x H' Nx => gTup K 2 (gCons (gName s1) (gCons (gName s2) gNil)) x (wipe σ vs) H' fun σ2 H2 => wipe σ2 vs = wipe σ vs ∧ tYes σ2 H2 fun b H3 => if b = true then te σ2 H3 fun y H4 => ∃ acc, H4 D = some (.lst acc) ∧ acc.length < sizeLine ∧ Nx (upd H4 D (.lst (acc ++ [y]))) else Nx H3)
    (fun i H' => ∃ zs, DpAll K (off (plus S D) H') zs (((ms.zip ns).map g).take i) ∧ Same H1 H' ∧ H' D = some (.lst zs)) ⟨[], .nil, same_new hD, upd_same⟩ (fun i H' _ ⟨_, _, z, _⟩ => hG H' z) ?_ ?_
  · rintro i x H2 H3 hi ⟨zs, py, z, hd⟩ ⟨T0, x1, y1, rfl, hT, rfl, hx, hy⟩
    obtain ⟨d, dj, dx⟩ := dpa_at ha hx
    obtain ⟨e, ej, dy⟩ := dpa_at hb hy
    obtain ⟨m, hj, hm, rfl⟩ := at_map dj
    obtain ⟨n, nj, hn', rfl⟩ := at_map ej
    have zj : (ms.zip ns)[i]? = some (m, n) := by rw [List.getElem?_zip_eq_some]; exact ⟨hj, nj⟩
    have sT := same_new (o := HO.tup [x1, y1]) hT
    have z3 := z.trans sT
    have hd3 := sT _ _ hd
    have hT3 : (upd H2 T0 (.tup [x1, y1])) T0 = some (.tup [x1, y1]) := upd_same
    have py3 := dpa_same (off_same (S := plus S D) sT) _ _ py
    generalize upd H2 T0 (.tup [x1, y1]) = H3 at *
    have hl : zs.length ≤ 100000 := by
      have := dpa_len py
      rw [List.length_take, List.length_map, List.length_zip] at this
      omega
    refine ⟨T0, [x1, y1], rfl, sqT hT3, rfl, x1, [y1], rfl, y1, [], rfl, rfl, hw x1 y1, t_yes ?_⟩
    refine body m n (List.mem_of_getElem? zj) x1 y1 H3 (plus S D) (s.trans z3) ((kn1.same z3).plus (some_ne hd3)) (dp_same (off_plus hD z3) _ _ dx) (dp_same (off_plus hD z3) _ _ dy) (fun _ h => .inl h) ((off_same s).trans (off_plus hD z3)) _ fun u H7 s7 d7 => ?_
    refine ⟨zs, s7 _ _ hd3, Nat.lt_of_le_of_lt hl (by decide), zs ++ [u], ?_, smut (z3.trans s7) hD, upd_same⟩
    rw [off_mut (show plus S D D from .inr rfl), List.take_add_one, List.getElem?_map, zj]
    exact dpa_app (dpa_same (off_same s7) _ _ py3) (.cons d7 .nil)
  · rintro H2 ⟨zs, py, z, hd⟩
    refine done D H2 zs (s.free hD) (s.trans z) hd (dp_lst (kn1.new hD) hd ?_)
    rw [List.take_of_length_le (by rw [List.length_map]; exact Nat.le_refl _)] at py
    exact dpa_same (off_fin (D := D)) _ _ py
end Kh

set_option maxRecDepth 100000
set_option maxHeartbeats 4000000
namespace K31
open PySem PySem.Spec PyProof.Rows L2 Kh
section
variable {P : Program} {w : World} {K : PySem.W.Frag} {mg : Str → Option Value} {base : Heap} {a : Nat → Addr} {fd : Nat → FuncData} {C : Addr} {tk : Nat → Tok}
theorem off_bt {S : Addr → Prop} {x : Addr} {H H' : Hp} (hx : S x) (e : SameBut x H H') : Same (off S H) (off S H') := fun b o h => by
  obtain ⟨n, h⟩ := off_some h
  rw [off_out n]
  exact e b o (fun z => n (z ▸ hx)) h
theorem kn_bt {S : Addr → Prop} {x : Addr} {H H' : Hp} (kn : Kn S H) (e : SameBut x H H') (hx : H' x ≠ none) : Kn S H' := fun b z => by
  by_cases q : b = x
  · subst q; exact hx
  · cases h : H b with
    | none => exact (kn b z h).elim
    | some o => rw [e b o q h]; exact fun z => nomatch z
end
section
variable {P : Program} {w : World} {K : PySem.W.Frag} {mg : Str → Option Value} {base : Heap} {a : Nat → Addr} {fd : Nat → FuncData} {C : Addr} {tk : Nat → Tok}
theorem off_sb {S : Addr → Prop} {D : Addr} {H H' : Hp} (e : SameBut D H H') : Same (off (plus S D) H) H' := fun c o h => e c o (fun z => (off_some h).1 (.inr z)) (off_some h).2
end
theorem sb_trans {D : Addr} {H H1 H2 : Hp} (x : SameBut D H H1) (y : SameBut D H1 H2) : SameBut D H H2 := fun b o n h => y b o n (x b o n h)
theorem PotAt.same {p : Addr} {H H' : Hp} (h : PotAt H p) (e : Same H H') : PotAt H' p := by obtain ⟨x, y, h, hy⟩ := h; exact ⟨x, y, e _ _ h, hy⟩
theorem PotAt.some {p : Addr} {H : Hp} (h : PotAt H p) : H p ≠ none := by obtain ⟨x, y, h, hy⟩ := h; exact some_ne h
theorem off_plusB {S : Addr → Prop} {p D : Addr} {H1 H : Hp} (hS : S p) (hD : H1 D = none) (s : SameBut p H1 H) : Same (off S H1) (off (plus S D) H) := fun b o h => by
  obtain ⟨n, h⟩ := off_some h
  rw [off_out]
  · exact s b o (fun z => n (z ▸ hS)) h
  · rintro (z | rfl)
    · exact n z
    · rw [hD] at h; cases h
theorem off_keep {S : Addr → Prop} {p : Addr} {H H' : Hp} (hS : S p) (e : SameBut p H H') : Same (off S H) H' := (off_bt hS e).trans off_sub
section
variable {K : PySem.W.Frag} {S : Addr → Prop} {p : Addr} {H1 : Hp} {σ : L2.St} {te : TE} {sl : Nat} {vs : List Nat} {Qd : VK} {J : It} {n : Nat} {G : Hp → Prop} {Y : Nat → Hp → V → Hp → Prop}
end
section
variable {P : Program} {w : World} {K : PySem.W.Frag} {mg : Str → Option Value} {base : Heap} {a : Nat → Addr} {fd : Nat → FuncData} {C : Addr} {tk : Nat → Tok}
theorem dec_int (n m : Nat) : decide (V.int (n : Nat) = V.int (m : Nat)) = decide (n = m) := decide_eq_decide.mpr ⟨fun h => by have := V.int.inj h; omega, fun h => by rw [h]⟩
end
abbrev ivs (ns : List Nat) : List V := ns.map fun n : Nat => V.int (n : Nat)
theorem cut_drop (xs : List V) (m : Nat) (h : m ≤ xs.length) : cutV xs (some (m : Nat)) none = xs.drop m := by
  unfold cutV
  rw [HT.sIx_none, HT.sIx_nat, Nat.min_eq_left h, List.take_of_length_le (by rw [List.length_drop]; omega)]
section
variable {P : Program} {w : World} {K : PySem.W.Frag} {mg : Str → Option Value} {base : Heap} {a : Nat → Addr} {fd : Nat → FuncData} {C : Addr} {tk : Nat → Tok}
theorem min2_of {H : Hp} {Q : VK} {i j m : Int} (e : (if j < i then j else i) = m) (q : Q (.int m) H) : rMin2 [.int i, .int j] H Q := ⟨i, j, rfl, by rw [e]; exact q⟩
theorem t_sl {r : V → Option Int → Option Int → Hp → VK → Prop} {te : TE} {tl th : TO} {σ : L2.St} {H : Hp} {Q : VK} (h : te σ H fun x H1 => tl σ H1 fun l H2 => th σ H2 fun u H3 => r x l u H3 Q) : tSl r te tl th σ H Q := h
end
section
variable {P : Program} {w : World} {K : PySem.W.Frag} {mg : Str → Option Value} {base : Heap} {a : Nat → Addr} {fd : Nat → FuncData} {C : Addr} {tk : Nat → Tok}
theorem nats_dpa {H : Hp} : ∀ ns : List Nat, DpAll K H (ns.map fun n : Nat => V.int (n : Nat)) (ns.map nD)
  | [] => .nil
  | n :: ns => .cons (.int _) (nats_dpa ns)
theorem dpa_nats {H : Hp} : ∀ {ns : List Nat} {vs : List V}, DpAll K H vs (ns.map nD) → vs = ns.map fun n : Nat => V.int (n : Nat)
  | [], _, h => by cases h; rfl
  | n :: ns, _, h => by
    cases h with
    | cons h1 h2 => cases h1; rw [dpa_nats h2]; rfl
theorem o_none {σ : L2.St} {H : Hp} {q : Option Int → Hp → Prop} (h : q none H) : tNoPart σ H q := h
theorem o_some {te : TE} {σ : L2.St} {H : Hp} {q : Option Int → Hp → Prop} (h : te σ H fun x H1 => ∃ i, x = .int i ∧ q (some i) H1) : tPart te σ H q := h
theorem cut_take (xs : List V) (m : Nat) (h : m ≤ xs.length) : cutV xs none (some (m : Nat)) = xs.take m := by
  unfold cutV
  rw [HT.sIx_none, HT.sIx_nat, List.drop_zero]
  congr 1; omega
end
section
variable {P : Program} {w : World} {K : PySem.W.Frag} {mg : Str → Option Value} {base : Heap} {a : Nat → Addr} {fd : Nat → FuncData} {C : Addr} {tk : Nat → Tok}
theorem take_snoc' {α : Type} {ns : List α} {i : Nat} {n : α} (h : ns[i]? = some n) : ns.take (i + 1) = ns.take i ++ [n] := by rw [List.take_add_one, h]; rfl
theorem dpa_take {K : PySem.W.Frag} {H : Hp} : ∀ {xs : List V} {ds : List PyData} (n : Nat), DpAll K H xs ds → DpAll K H (xs.take n) (ds.take n)
  | _, _, 0, _ => by rw [List.take_zero, List.take_zero]; exact .nil
  | _, _, n + 1, .nil => .nil
  | _, _, n + 1, .cons h t => .cons h (dpa_take n t)
theorem dpa_drop {K : PySem.W.Frag} {H : Hp} : ∀ {xs : List V} {ds : List PyData} (n : Nat), DpAll K H xs ds → DpAll K H (xs.drop n) (ds.drop n)
  | _, _, 0, h => h
  | _, _, n + 1, .nil => .nil
  | _, _, n + 1, .cons h t => dpa_drop n t
theorem sl_drop {α : Type} {S : Addr → Prop} {H : Hp} {x : V} {ms : List α} {f : α → PyData} {m : Nat} {Q : VK} (kn : Kn S H) (hx : Dp K (off S H) x (.list (ms.map f))) (hm : m ≤ ms.length)
    (q : ∀ u H', Same H H' → Dp K (off S H') u (.list ((ms.drop m).map f)) → Q u H') : rSlL K x (some (m : Nat)) none H Q := by
  obtain ⟨l, xs, rfl, h1, d1⟩ := list_at hx
  have hl := dpa_len d1
  rw [List.length_map] at hl
  refine ⟨l, xs, rfl, off_sub.seq h1, fun p hp => ?_⟩
  rw [cut_drop _ _ (by omega)]
  exact q _ _ (same_new hp) (dp_newL kn hp (by rw [List.map_drop]; exact dpa_drop m d1))
theorem sl_take {α : Type} {S : Addr → Prop} {H : Hp} {x : V} {ms : List α} {f : α → PyData} {m : Nat} {Q : VK} (kn : Kn S H) (hx : Dp K (off S H) x (.list (ms.map f))) (hm : m ≤ ms.length)
    (q : ∀ u H', Same H H' → Dp K (off S H') u (.list ((ms.take m).map f)) → Q u H') : rSlL K x none (some (m : Nat)) H Q := by
  obtain ⟨l, xs, rfl, h1, d1⟩ := list_at hx
  have hl := dpa_len d1
  rw [List.length_map] at hl
  refine ⟨l, xs, rfl, off_sub.seq h1, fun p hp => ?_⟩
  rw [cut_take _ _ (by omega)]
  exact q _ _ (same_new hp) (dp_newL kn hp (by rw [List.map_take]; exact dpa_take m d1))
theorem nat_bits {n b : Nat} (h : n < 2 ^ b) : ((n : Nat) : Int).natAbs < 2 ^ b := by simpa using h
end
section
variable {P : Program} {w : World} {K : PySem.W.Frag} {mg : Str → Option Value} {base : Heap} {a : Nat → Addr} {fd : Nat → FuncData} {C : Addr} {tk : Nat → Tok}
theorem s_enum {iv : Nat} {a : Addr} {xs : List V} {s1 s2 : Nat} {tb : TS} {D : Ends} {σ : L2.St} {H : Hp} (hi : σ[iv]? = some (some (.ref a))) (hs : SqL K H a xs) (Pv : Nat → L2.St → Hp → Prop) (h0 : Pv 0 σ H) (hG : ∀ i σ' H', Pv i σ' H' → SqL K H' a xs)
    (hst : ∀ i x σ' H' H'', i < xs.length → xs[i]? = some x → Pv i σ' H' → Same H' H'' → tb { D with nx := Pv (i + 1), ct := Pv (i + 1), bk := D.nx } ((σ'.set s1 (some (.int (i : Nat)))).set s2 (some x)) H'') (hd : ∀ σ' H', Pv xs.length σ' H' → D.nx σ' H') :
    tFor (iEnum K (tCons (tVar iv) tNil)) (gTup K 2 (gCons (gName s1) (gCons (gName s2) gNil))) tb D σ H := by
  unfold tFor iEnum
  refine a_cons (t_var hi (a_nil ?_))
  refine ⟨a, xs, rfl, hs, for_it (walk_enum (K := K) (a := a) (xs := xs)) Pv h0 (fun i σ' H' _ p => hG i σ' H' p) (fun i x σ' H' H'' hi p y => ?_) hd⟩
  obtain ⟨T0, x1, y1, rfl, hT, rfl, hx, hy⟩ := y
  cases hx
  refine ⟨T0, [_, y1], rfl, sqT upd_same, rfl, _, [y1], rfl, y1, [], rfl, rfl, ?_⟩
  exact hst i y1 σ' H' _ hi hy p (same_new hT)
theorem s_asgg {te : TE} {g : TG} {D : Ends} {σ : L2.St} {H : Hp} (h : te σ H fun v H1 => g v σ H1 D.nx) : tAsg te g D σ H := h
end
section
variable {P : Program} {w : World} {K : PySem.W.Frag} {mg : Str → Option Value} {base : Heap} {a : Nat → Addr} {fd : Nat → FuncData} {C : Addr} {tk : Nat → Tok}
theorem g_tup2 {i j : Nat} {v : V} {σ : L2.St} {H1 : Hp} {S0 : Addr → Prop} {d1 d2 : PyData} {Q : L2.St → Hp → Prop} (hd : Dp K (off S0 H1) v (.tuple [d1, d2]))
    (k : ∀ x y, Dp K (off S0 H1) x d1 → Dp K (off S0 H1) y d2 → Q ((σ.set i (some x)).set j (some y)) H1) : gTup K 2 (gCons (gName i) (gCons (gName j) gNil)) v σ H1 Q := by
  obtain ⟨r, xs, rfl, hs, ha⟩ := tup_at hd
  obtain - | ⟨h1, - | ⟨h2, ⟨⟩⟩⟩ := ha
  rename_i x y
  exact ⟨r, [x, y], rfl, same_t off_sub hs, rfl, x, [y], rfl, y, [], rfl, rfl, k x y h1 h2⟩
end
section
variable {P : Program} {w : World} {K : PySem.W.Frag} {mg : Str → Option Value} {base : Heap} {a : Nat → Addr} {fd : Nat → FuncData} {C : Addr} {tk : Nat → Tok}
theorem kn_sb {S : Addr → Prop} {p : Addr} {H H' : Hp} (kn : Kn S H) (sb : SameBut p H H') (hp : PotAt H' p) : Kn S H' := fun b hb => by
  by_cases e : b = p
  · subst e; exact hp.some
  · cases h : H b with
    | none => exact (kn b hb h).elim
    | some o => rw [sb b o e h]; exact fun z => nomatch z
theorem s_setC {te : TE} {i : Nat} {σ : L2.St} {H : Hp} {D : Ends} (Cnd : V → Hp → Prop) (k : ∀ v H', Cnd v H' → D.nx (σ.set i (some v)) H') (h : ∀ N : VK, (∀ v H', Cnd v H' → N v H') → te σ H N) : tAsg te (gName i) D σ H := h (fun v H' => D.nx (σ.set i (some v)) H') k
end
/-- [e for x in range(n)], e a truth value -/
theorem lc_rngB {K : PySem.W.Frag} {S : Addr → Prop} {H : Hp} {σ : L2.St} {te : TE} {sl : Nat} {vs : List Nat} {Q : VK} {n : Nat} {ta : TA} (f : Nat → Bool) (kn : Kn S H) (hn : n ≤ 1000)
    (hev : ∀ q : List V → Hp → Prop, (∀ H1, Same H H1 → q [.int (n : Nat)] H1) → ta σ H q) (hw : ∀ x, wipe ((wipe σ vs).set sl (some x)) vs = wipe σ vs)
    (body : ∀ j H1 S', j < n → Same H H1 → Kn S' H1 → (∀ a, S a → S' a) → Same (off S H) (off S' H1) → ∀ Q : VK, (∀ H', Same H1 H' → Q (.bl (f j)) H') → te ((wipe σ vs).set sl (some (.int (j : Nat)))) H1 Q)
    (done : ∀ D H1, Same H H1 → Dp K (off S H1) (.ref D) (.list (((List.range n).map f).map PyData.bool)) → Q (.ref D) H1) :
    tLc (iRng1 ta) (gName sl) tYes te vs σ H Q := by
  refine lc_rngF (K := K) (n := n) (fun _ => true) (fun j => .bool (f j)) kn (by omega) hev hw (fun j H1 S' _ _ _ _ _ Q q => q H1 (Same.refl _)) (fun j H1 S' hj _ s kn' hS ho Q q => body j H1 S' hj s kn' hS ho Q fun H' s' => q _ H' s' (.bl _)) fun D H1 ys hD s hd h => ?_
  refine done D H1 s ?_
  have e : (((List.range n).filter fun _ => true).map fun j => PyData.bool (f j)) = ((List.range n).map f).map PyData.bool := by
    rw [List.map_map, List.filter_eq_self.mpr (fun _ _ => rfl)]; rfl
  rw [← e]; exact h
section
variable {P : Program} {w : World} {K : PySem.W.Frag} {mg : Str → Option Value} {base : Heap} {a : Nat → Addr} {fd : Nat → FuncData} {C : Addr} {tk : Nat → Tok}
end
end K31

set_option maxRecDepth 100000
set_option maxHeartbeats 4000000
namespace K31
open PySem PySem.Spec PyProof.Rows L2 Kh
/-! data that can be compared -/
structure Shd (d : PyData) : Prop where
  can : d.canLay0 = true
  dep : d.depth ≤ 50
theorem can_all : ∀ {ds : List PyData}, (∀ d ∈ ds, d.canLay0 = true) → PyData.canLayAll0 ds = true
  | [], _ => by simp [PyData.canLayAll0]
  | d :: ds, h => by rw [PyData.canLayAll0, h d List.mem_cons_self, can_all fun e he => h e (List.mem_cons_of_mem _ he)]; rfl
theorem dep_all {n : Nat} : ∀ {ds : List PyData}, (∀ d ∈ ds, d.depth ≤ n) → PyData.depthAll ds ≤ n
  | [], _ => by simp [PyData.depthAll]
  | d :: ds, h => by rw [PyData.depthAll]; exact Nat.max_le.mpr ⟨h d List.mem_cons_self, dep_all fun e he => h e (List.mem_cons_of_mem _ he)⟩
theorem shaped_list {ds : List PyData} (h : ∀ d ∈ ds, Shd d) : SeqAt.shaped (.list ds) = true := by
  unfold SeqAt.shaped
  have h1 : (PyData.list ds).canLay0 = true := by rw [PyData.canLay0]; exact can_all fun d hd => (h d hd).can
  have h2 : (PyData.list ds).depth ≤ 64 := by rw [PyData.depth]; have := dep_all fun d hd => (h d hd).dep; omega
  rw [h1, decide_eq_true h2]; rfl
theorem shd_shaped {d : PyData} (h : Shd d) : SeqAt.shaped d = true := by
  unfold SeqAt.shaped
  rw [h.can, decide_eq_true (show d.depth ≤ 64 by have := h.dep; omega)]; rfl
theorem shd_int (i : Int) : Shd (.int i) := ⟨by simp [PyData.canLay0], by simp [PyData.depth]⟩
theorem eqv_nilD (ds : List PyData) : PyData.eqv (.list ds) (.list []) = ds.isEmpty := by
  rw [PyData.eqv]
  cases ds with
  | nil => rw [PyData.eqvAll]; rfl
  | cons m ms => rw [PyData.eqvAll]; rfl
theorem zip_dp {K : PySem.W.Frag} {H : Hp} {xs : List V} {ds : List PyData} (d1 : DpAll K H xs ds) : ∀ cs : List (V × PyData), (∀ b ∈ cs, b ∈ xs.zip ds) → DpAll K H (cs.map Prod.fst) (cs.map Prod.snd) := by
  intro cs
  induction cs with
  | nil => intro _; exact .nil
  | cons c cs ih => intro h; exact .cons (zip_mem_dp d1 c (h c List.mem_cons_self)) (ih fun b hb => h b (List.mem_cons_of_mem _ hb))
theorem perm_at {α : Type} {x : α} : ∀ {l : List α} {k : Nat}, l[k]? = some x → (x :: l.eraseIdx k).Perm l
  | [], k, h => by simp at h
  | y :: l, 0, h => by
    simp at h; subst h
    rw [List.eraseIdx_cons_zero]
  | y :: l, k + 1, h => by
    rw [List.eraseIdx_cons_succ]
    exact (List.Perm.swap y x _).trans ((perm_at (l := l) (k := k) (by simpa using h)).cons y)
theorem erase_map {α β : Type} (f : α → β) : ∀ (l : List α) (k : Nat), (l.map f).eraseIdx k = (l.eraseIdx k).map f
  | [], k => by simp
  | y :: l, 0 => by simp
  | y :: l, k + 1 => by simp [erase_map f l k]
section
variable {P : Program} {w : World} {K : PySem.W.Frag} {mg : Str → Option Value} {base : Heap} {a : Nat → Addr} {fd : Nat → FuncData} {C : Addr} {tk : Nat → Tok}
/-- the given things, in some order -/
def spMixed (K : PySem.W.Frag) : Sp := fun vs H Q _ => ∃ (S : Addr → Prop) (p : Addr) (v : V) (ds : List PyData), vs = [.ref p, v] ∧ Kn S H ∧ S p ∧ PotAt H p ∧ Dp K (off S H) v (.list ds) ∧ (∀ d ∈ ds, Shd d) ∧ ds.length ≤ 100 ∧
  ∀ u H' es, SameBut p H H' → PotAt H' p → es.Perm ds → Dp K (off S H') u (.list es) → Q u H'
theorem ok__law_mixed (T : Txt K mg a fd C tk) : FnOk P w K mg base CX0 2 (a 19) (fd 19) ["_law_pot_here", "_law_some"] (spMixed K) := by
  have G__law_draw := ok__law_draw (P := P) (w := w) (base := base) T
  refine T.F__law_mixed.ok sc__law_mixed (fun vs H Q E h => by obtain ⟨_, _, _, _, rfl, _⟩ := h; rfl) (fun cdv A outer s H vs Q E hr h => ?_)
  obtain ⟨S, p, v, ds, rfl, kn, hS, hp, hd, shd, few, q⟩ := h
  refine ⟨_, (pss_cons (ps_par (i := 2) (j := 3) (by rfl) sc__law_mixed.nd rfl rfl (by decide) rfl rfl (pa_cons (pe_callTy (k_list (K := K)) (by rfl) T.z_list (by decide +kernel) (pa_cons (pv 1) pa_nil)) (pa_cons (pe_lst pa_nil) pa_nil)) (by rfl))
      (pss_cons (ps_while PassesOwn.never (pt_cmpR (k_neD (K := K) hr.units) (pv 2) (pe_lst pa_nil) (nomark _))
        (pss_one (ps_expr (pe_bm PySem.F.plainAttrs_list PySem.F.slot_list_append PySem.F.type_list_append mt_append (pv 3) (pa_cons (pe_bm PySem.F.plainAttrs_list PySem.F.slot_list_pop PySem.F.type_list_pop mt_popAt (pv 2) (pa_cons (pe_call G__law_draw (hr.mono (by omega)) (by rfl) T.m__law_draw T.F__law_draw.kp T.b__law_draw .nil pass0 (pa_cons (pv 0) (pa_cons (pe_callB (k_len (K := K)) (by rfl) T.z_len (by decide +kernel) (pa_cons (pv 2) pa_nil)) pa_nil))) pa_nil)) pa_nil)))))
      (pss_one (ps_ret (pv 3))))), ?_⟩
  refine s_seq (a_cons (t_cb1 (t_var rfl (list_d kn hd rfl fun L xs hL ha _ => a_cons (t_lst0 fun F hF => a_nil ⟨_, _, rfl, nx_of ?_⟩)))))
  have lz := dpa_len ha
  have e1 : (xs.zip ds).map Prod.fst = xs := List.map_fst_zip (by omega)
  have e2 : (xs.zip ds).map Prod.snd = ds := List.map_snd_zip (by omega)
  have sL := same_new (o := HO.lst xs) hL
  have sF := same_new (o := HO.lst []) hF
  have FL : L ≠ F := ne_of_none (upd_same (H := H)) hF
  have hF0 : H F = none := sL.free hF
  obtain ⟨x0, y0, hp0, _⟩ := id hp
  have pL : L ≠ p := fun e => by subst e; rw [hL] at hp0; cases hp0
  have pF : F ≠ p := fun e => by subst e; rw [hF0] at hp0; cases hp0
  have kb : ∀ {H' : Hp}, SameBut p H H' → PotAt H' p → Kn S H' := fun {H'} sb pt => kn_bt kn sb (by obtain ⟨_, _, h, _⟩ := pt; exact some_ne h)
  refine s_seq ⟨fun m σ H' => ∃ fs ls : List (V × PyData), σ = [some (.ref p), some v, some (.ref L), some (.ref F)] ∧ H' L = some (.lst (ls.map Prod.fst)) ∧ H' F = some (.lst (fs.map Prod.fst)) ∧ PotAt H' p ∧ SameBut p H H' ∧ (fs ++ ls).Perm (xs.zip ds) ∧ m = ls.length,
    ⟨_, [], xs.zip ds, rfl, by rw [upd_ne FL, e1]; exact upd_same, upd_same, ⟨x0, y0, by rw [upd_ne (Ne.symm pF), upd_ne (Ne.symm pL)]; exact hp0, by assumption⟩, sbut (sL.trans sF), List.Perm.refl _, rfl⟩, ?_⟩
  rintro m σ H' ⟨fs, ls, rfl, hL', hF', hp', sb, pm, rfl⟩
  have len := pm.length_eq
  rw [List.length_append, List.length_zip] at len
  have mem : ∀ z ∈ fs ++ ls, z ∈ xs.zip ds := fun z hz => pm.mem_iff.mp hz
  have dls := zip_dp ha ls fun z hz => mem z (List.mem_append_right _ hz)
  have dfs := zip_dp ha fs fun z hz => mem z (List.mem_append_left _ hz)
  have shl : ∀ d ∈ ls.map Prod.snd, Shd d := fun d hd' => by
    obtain ⟨z, hz, rfl⟩ := List.mem_map.mp hd'
    have := mem z (List.mem_append_right _ hz)
    refine shd _ ?_
    rw [← e2]; exact List.mem_map_of_mem this
  refine b_test (t_op (t_var rfl (t_lst0 fun E0 hE => ?_)))
  have sE := same_new (o := HO.lst []) hE
  have sb1 : SameBut p H (upd H' E0 (.lst [])) := fun b o n h => sE _ _ (sb b o n h)
  refine ⟨.list (ls.map Prod.snd), .list [], .lst (sqL (sE _ _ hL')) (dpa_same ((off_bt hS sb1).trans off_sub) _ _ dls), .lst (sqL upd_same) .nil, shaped_list shl, (by decide), ?_⟩
  have hp1 : PotAt (upd H' E0 (.lst [])) p := by obtain ⟨x, y, h, hy⟩ := hp'; exact ⟨x, y, sE _ _ h, hy⟩
  have hL1 := sE _ _ hL'
  have hF1 := sE _ _ hF'
  generalize upd H' E0 (.lst []) = H1 at *
  rw [eqv_nilD]
  cases ls with
  | nil =>
    refine ⟨_, rfl, ifF rfl (nx_of (s_ret (t_var rfl (q _ H1 (fs.map Prod.snd) sb1 hp1 ?_ (dp_lst ?_ hF1 (dpa_same (off_bt hS sb1) _ _ dfs))))))⟩
    · rw [List.append_nil] at pm
      have := pm.map Prod.snd
      rwa [e2] at this
    · exact kn.new hF0
  | cons z0 lr =>
    refine ⟨_, rfl, ifT rfl ⟨fun σ' H'' => ∃ fs ls : List (V × PyData), σ' = [some (.ref p), some v, some (.ref L), some (.ref F)] ∧ H'' L = some (.lst (ls.map Prod.fst)) ∧ H'' F = some (.lst (fs.map Prod.fst)) ∧ PotAt H'' p ∧ SameBut p H H'' ∧ (fs ++ ls).Perm (xs.zip ds) ∧ ls.length < (z0 :: lr).length, ?_, ?_⟩⟩
    · rintro σ' H'' ⟨fs', ls', h1, h2, h3, h4, h5, h6, h7⟩
      exact ⟨_, h7, fs', ls', h1, h2, h3, h4, h5, h6, rfl⟩
    · refine s_drop (t_bm (t_var rfl ⟨.inl ⟨rfl, _, sqL hF1⟩, a_cons (t_bm (t_var rfl ⟨.inl ⟨rfl, _, sqL hL1⟩, a_cons (t_call2 (t_var rfl (t_cb1 (t_var rfl ⟨L, _, rfl, .inl (sqL hL1), p, (z0 :: lr).length, ?_, hp1, by simp, by omega, fun d H2 hd sb2 hp2 => ?_⟩))))⟩))⟩))
      · rw [List.length_map]
      · have hL2 := sb2 _ _ pL hL1
        have hF2 := sb2 _ _ pF hF1
        obtain ⟨x, hx⟩ : ∃ x, (z0 :: lr)[d]? = some x := ⟨_, List.getElem?_eq_getElem hd⟩
        refine a_nil ⟨L, _, (d : Nat), d, x.1, rfl, rfl, hL2, by omega, by omega, ?_, ?_, a_nil ⟨F, _, _, rfl, rfl, by rw [upd_ne (Ne.symm FL)]; exact hF2, Nat.lt_of_le_of_lt (show (fs.map Prod.fst).length ≤ 100000 by rw [List.length_map]; omega) (by decide), ?_⟩⟩
        · refine (ixN_seq ?_).1
          unfold ixN
          rw [List.length_map, if_pos (by omega), if_pos (by omega), Int.toNat_natCast]
        · rw [List.getElem?_map, hx]; rfl
        · refine ⟨fs ++ [x], (z0 :: lr).eraseIdx d, rfl, ?_, ?_, ?_, ?_, ?_, ?_⟩
          · rw [upd_ne FL, upd_same, erase_map]
          · rw [upd_same, List.map_append]; rfl
          · obtain ⟨x2, y2, h2, hy2⟩ := hp2
            exact ⟨x2, y2, by rw [upd_ne (Ne.symm pF), upd_ne (Ne.symm pL)]; exact h2, hy2⟩
          · intro b o n h
            rw [upd_ne (ne_of_none h hF0), upd_ne (ne_of_none h hL)]
            exact sb2 b o n (sb1 b o n h)
          · rw [List.append_assoc]
            exact ((perm_at hx).append_left fs).trans pm
          · rw [List.length_eraseIdx, if_pos hd]; simp
end
end K31

set_option maxRecDepth 100000
set_option maxHeartbeats 4000000
namespace K31
open PySem PySem.Spec PyProof.Rows L2 Kh
structure TxC (K : PySem.W.Frag) (mg : Str → Option Value) (a : Nat → Addr) (C : Addr) : Prop where
  cls : Cls K C
  n_rows : NoAttr K C "_rows"
  M_Table : Mk K C (a 5)
  m_Table : mg "Table" = some (.ref C)
  me_rows : Meth K C "rows" (a 6)
  me_at : Meth K C "at" (a 7)
  me_len : Meth K C "__len__" (a 8)
  me_eq : Meth K C "__eq__" (a 9)
structure TxD (K : PySem.W.Frag) (C : Addr) : Prop where
  ha : PySem.W.findIn K (.ref C) "__class__" = some (some (.builtin "object.__class__"))
  hn : PySem.W.specialIn K (.builtin "object.__class__") "__get__" = some (some (.builtin "getset_descriptor.__get__"))
  htk : PySem.W.takesIn K (.builtin "object.__class__") = some true
  hm : PySem.W.mroIn K C (.type "object") = some true
  own : PySem.W.kitOne K (.ref C) (.ref C) = some true
/-- a right table -/
structure Tb (R : List (List Nat)) : Prop where
  pos : 1 ≤ R.length
  few : R.length ≤ 7
  row : ∀ r ∈ R, r.length = R.length
  num : ∀ r ∈ R, ∀ n ∈ r, n < R.length
def at_ (R : List (List Nat)) (i j : Nat) : Nat := (R.getD i []).getD j 0
def nLL (R : List (List Nat)) : PyData := .list (R.map nL)
def nT (r : List Nat) : PyData := .tuple (r.map nD)
def tT (R : List (List Nat)) : PyData := .tuple (R.map nT)
theorem Tb.get {R : List (List Nat)} (h : Tb R) {i : Nat} (hi : i < R.length) : R[i]? = some (R.getD i []) ∧ R.getD i [] ∈ R := by
  have e : R[i]? = some R[i] := List.getElem?_eq_getElem hi
  have e2 : R.getD i [] = R[i] := by rw [List.getD_eq_getElem?_getD, e]; rfl
  rw [e2]; exact ⟨e, List.getElem_mem hi⟩
theorem Tb.at_get {R : List (List Nat)} (h : Tb R) {i j : Nat} (hi : i < R.length) (hj : j < R.length) : (R.getD i [])[j]? = some (at_ R i j) ∧ at_ R i j < R.length := by
  have hr := (h.get hi).2
  have hl := h.row _ hr
  have e : (R.getD i [])[j]? = some (R.getD i [])[j] := List.getElem?_eq_getElem (by omega)
  have e2 : at_ R i j = (R.getD i [])[j] := by unfold at_; rw [List.getD_eq_getElem?_getD, e]; rfl
  rw [e2]
  exact ⟨e, h.num _ hr _ (List.getElem_mem _)⟩
theorem row_get {R : List (List Nat)} (h : Tb R) {i : Nat} (f : List Nat → PyData) (hi : i < R.length) : (R.map f)[i]? = some (f (R.getD i [])) := by
  rw [List.getElem?_map, (h.get hi).1]; rfl
theorem num_get {R : List (List Nat)} (h : Tb R) {i j : Nat} (hi : i < R.length) (hj : j < R.length) : ((R.getD i []).map nD)[j]? = some (nD (at_ R i j)) := by
  rw [List.getElem?_map, (h.at_get hi hj).1]; rfl
theorem shd_nums {r : List Nat} : (∀ d ∈ r.map nD, Shd d) := fun d hd => by
  obtain ⟨n, _, rfl⟩ := List.mem_map.mp hd
  exact shd_int _
theorem shd_nT (r : List Nat) : Shd (nT r) := by
  refine ⟨?_, ?_⟩
  · unfold nT; rw [PyData.canLay0]; exact can_all fun d hd => (shd_nums d hd).can
  · unfold nT; rw [PyData.depth]
    have := dep_all (n := 0) (ds := r.map nD) fun d hd => by
      obtain ⟨n, _, rfl⟩ := List.mem_map.mp hd
      simp [nD, PyData.depth]
    omega
theorem shd_nL (r : List Nat) : Shd (nL r) := by
  refine ⟨?_, ?_⟩
  · unfold nL; rw [PyData.canLay0]; exact can_all fun d hd => (shd_nums d hd).can
  · unfold nL; rw [PyData.depth]
    have := dep_all (n := 0) (ds := r.map nD) fun d hd => by
      obtain ⟨n, _, rfl⟩ := List.mem_map.mp hd
      simp [nD, PyData.depth]
    omega
theorem shaped_tT (R : List (List Nat)) : SeqAt.shaped (tT R) = true := by
  unfold SeqAt.shaped tT
  have h1 : (PyData.tuple (R.map nT)).canLay0 = true := by
    rw [PyData.canLay0]; exact can_all fun d hd => by obtain ⟨r, _, rfl⟩ := List.mem_map.mp hd; exact (shd_nT r).can
  have h2 : (PyData.tuple (R.map nT)).depth ≤ 64 := by
    rw [PyData.depth]
    have := dep_all (n := 50) (ds := R.map nT) fun d hd => by obtain ⟨r, _, rfl⟩ := List.mem_map.mp hd; exact (shd_nT r).dep
    omega
  rw [h1, decide_eq_true h2]; rfl
theorem eqv_numsT : ∀ r : List Nat, PyData.eqvAll (r.map nD) (r.map nD) = true
  | [] => by rw [List.map_nil, PyData.eqvAll]
  | n :: r => by
    rw [List.map_cons, PyData.eqvAll, eqv_numsT r]
    unfold nD
    rw [PyData.eqv]; simp
theorem eqv_tT (R : List (List Nat)) : PyData.eqv (tT R) (tT R) = true := by
  unfold tT
  rw [PyData.eqv]
  induction R with
  | nil => rw [List.map_nil, PyData.eqvAll]
  | cons r R ih =>
    rw [List.map_cons, PyData.eqvAll, ih]
    unfold nT
    rw [PyData.eqv, eqv_numsT]; rfl
/-- at x stands the object of a table -/
def TabAt (K : PySem.W.Frag) (C : Addr) (H : Hp) (R : List (List Nat)) (x : Addr) : Prop := ∃ dx v, H x = some (.ins C dx [("_rows", v)]) ∧ Dp K H v (tT R)
theorem TabAt.same {K : PySem.W.Frag} {C : Addr} {H H' : Hp} {R : List (List Nat)} {x : Addr} (h : TabAt K C H R x) (e : Same H H') : TabAt K C H' R x := by
  obtain ⟨dx, v, h0, h1⟩ := h
  exact ⟨dx, v, e _ _ h0, dp_same e _ _ h1⟩
theorem tab_isI {K : PySem.W.Frag} {C : Addr} {H : Hp} {S : Addr → Prop} {R : List (List Nat)} {x : Addr} (h : TabAt K C (off S H) R x) : isI H C (.ref x) := by
  obtain ⟨dx, v, h0, _⟩ := h
  exact ⟨x, dx, _, rfl, (off_some h0).2⟩
section
variable {P : Program} {w : World} {K : PySem.W.Frag} {mg : Str → Option Value} {base : Heap} {a : Nat → Addr} {fd : Nat → FuncData} {C : Addr} {tk : Nat → Tok}
def eRow (x : List Nat × Nat) : List PyData := [nL x.1, nD x.2]
abbrev spRow (K : PySem.W.Frag) : Sp := spP K eRow (fun x => x.1.length = x.2 ∧ x.2 ≤ 7 ∧ ∀ n ∈ x.1, n < x.2) fun _ => .bool true
theorem ok_is_row (T : Txt K mg a fd C tk) : FnOk P w K mg base CX0 4 (a 4) (fd 4) ["value", "size"] (spRow K) := by
  have G_is_list : FnOk P w K mg base CX0 1 (a 2) (fd 2) ["value"] (spIsList K) := ok_is_list T
  have G_is_number_below : FnOk P w K mg base CX0 3 (a 3) (fd 3) ["value", "many"] (spBelow K) := ok_is_number_below T
  refine T.F_is_row.ok sc_is_row (fun vs H Q E h => spP_len (fun _ => rfl) h) (fun cdv A outer s H vs Q E hr h => ?_)
  obtain ⟨S, ⟨r, n⟩, kn, hd, ⟨hl, h7, hn⟩, q⟩ := h
  replace hl : r.length = n := hl
  replace h7 : n ≤ 7 := h7
  replace hn : ∀ m ∈ r, m < n := hn
  obtain - | ⟨h1, - | ⟨h2, ⟨⟩⟩⟩ := hd
  cases h2
  rename_i v
  replace h1 : Dp K (off S H) v (.list (r.map nD)) := h1
  refine ⟨_, (pss_one (ps_ret (pe_and (pe_call G_is_list (hr.mono (by omega)) (by rfl) T.m_is_list T.F_is_list.kp T.b_is_list .nil pass0 (pa_cons (pv 0) pa_nil)) (pe_and (pe_cmpR op_eq (pe_callB (k_len (K := K)) (by rfl) T.z_len (by decide +kernel) (pa_cons (pv 0) pa_nil)) (pv 1) (nomark _)) (pe_one (pe_callB (k_all (K := K) rfl) (by rfl) T.z_all (by decide +kernel) (pa_cons (pe_lc (own := [("part", 2)]) (g := gName 2) (tt := tYes) rfl sc_is_row.nd (k_pi (K := K) (pv 0)) (blkOk_by (own := [("part", 2)]) (N := is_row_N) (sc := defScope is_row_s) (by decide +kernel)) (fun _ _ _ _ _ => (pg_name (i := 2) sc_is_row.nd rfl (Or.inl rfl))) (fun _ _ _ _ _ => pts_nil) (fun _ _ _ _ _ => (pe_call G_is_number_below (hr.mono (by omega)) (by rfl) T.m_is_number_below T.F_is_number_below.kp T.b_is_number_below .nil pass0 (pa_cons (pv 2) (pa_cons (pv 1) pa_nil))))) pa_nil))))))), ?_⟩
  refine s_ret (t_andV (t_call1 (t_var rfl (spP_bl off_sub (nL r) (.cons h1 .nil) trivial rfl fun H1 s1 => bl_ifT ?_))))
  have kn1 := kn.same s1
  have d1 := dp_same (off_same s1) _ _ h1
  refine t_andV (t_op (t_cb1 (t_var rfl (len_d off_sub d1 rfl (t_var rfl ⟨rfl, ?_⟩)))))
  have e : decide (V.int (((r.map nD).length : Nat) : Int) = V.int ((n : Nat) : Int)) = true := decide_eq_true (by rw [List.length_map, hl])
  rw [e]
  refine bl_ifT (t_cb1 (lcM false r nD (fun _ => .bool true) kn1 (fun Q q => t_var rfl (q _ _ (Same.refl _) d1)) (by omega) (fun _ => rfl) (fun m hm x H2 S2 s2 kn2 dx hS ho Q q => ?_) fun D H2 ys hD s2 hd2 h2 => ?_))
  · cases dx
    refine t_call2 (t_var rfl (t_var rfl ⟨S2, (nD m, (n : Nat)), kn2, .cons (.int _) (.cons (.int _) .nil), trivial, fun v H' s' h => q v H' s' ?_⟩))
    have : belowD ((n : Nat) : Int) (nD m) = true := by
      show (decide (0 ≤ ((m : Nat) : Int)) && decide (((m : Nat) : Int) < (n : Nat))) = true
      have := hn m hm
      rw [decide_eq_true (by omega), decide_eq_true (by omega)]; rfl
    replace h : Dp K (off S2 H') v (.bool (belowD ((n : Nat) : Int) (nD m))) := h
    rw [this] at h; exact h
  · refine all_d (bs := r.map fun _ => true) off_sub (by rw [List.map_map]; exact h2) ?_
    have e : (r.map fun _ => true).all id = true := List.all_eq_true.mpr fun b hb => by
      obtain ⟨_, _, rfl⟩ := List.mem_map.mp hb; rfl
    rw [e]; exact q _ _ (s1.trans s2) (.bl true)
def spInit (K : PySem.W.Frag) (C : Addr) : Sp := fun vs H Q _ => ∃ (S : Addr → Prop) (x : Addr) (dx : Addr) (v : V) (R : List (List Nat)), vs = [.ref x, v] ∧ Kn S H ∧ S x ∧ H x = some (.ins C dx []) ∧ Dp K (off S H) v (nLL R) ∧ Tb R ∧
  ∀ H' v1, SameBut x H H' → H' x = some (.ins C dx [("_rows", v1)]) → Dp K (off S H') v1 (tT R) → Q .non H'
theorem ok_Table_init (T : Txt K mg a fd C tk) (U : TxC K mg a C) : FnOk P w K mg base CX0 8 (a 5) (fd 5) ["self", "rows"] (spInit K C) := by
  have G_is_list : FnOk P w K mg base CX0 1 (a 2) (fd 2) ["value"] (spIsList K) := ok_is_list T
  have G_is_row := ok_is_row (P := P) (w := w) (base := base) T
  refine T.F_Table_init.ok sc_Table_init (fun vs H Q E h => by obtain ⟨_, _, _, _, _, rfl, _⟩ := h; rfl) (fun cdv A outer s H vs Q E hr h => ?_)
  obtain ⟨S, x, dx, v, R, rfl, kn, hS, hx, hd, tb, q⟩ := h
  replace hd : Dp K (off S H) v (.list (R.map nL)) := hd
  have p1 := tb.pos
  have p7 := tb.few
  refine ⟨_, (pss_cons (ps_if (PW.pt (pw_or (pt_not (pt_val (pe_call G_is_list (hr.mono (by omega)) (by rfl) T.m_is_list T.F_is_list.kp T.b_is_list .nil pass0 (pa_cons (pv 1) pa_nil)))) (pw_or1 (pt_not (pt_chain op_le op_le pe_int (pe_callB (k_len (K := K)) (by rfl) T.z_len (by decide +kernel) (pa_cons (pv 1) pa_nil)) (pe_glob (v := .int 7) (by rfl) T.m_MOST_VALUES ⟨_, rfl⟩))))))
        (pss_one ps_never) pss_nil)
      (pss_cons (ps_for PassesOwn.never rfl (pi_enum (by rfl) T.z_enumerate (pa_cons (pv 1) pa_nil)) (pg_tup rfl (pgs_cons (pg_name (i := 2) sc_Table_init.nd rfl (Or.inl rfl)) (pgs_cons (pg_name (i := 3) sc_Table_init.nd rfl (Or.inl rfl)) pgs_nil)))
        (pss_one (ps_if (pt_not (pt_val (pe_call G_is_row (hr.mono (by omega)) (by rfl) T.m_is_row T.F_is_row.kp T.b_is_row .nil pass0 (pa_cons (pv 3) (pa_cons (pe_callB (k_len (K := K)) (by rfl) T.z_len (by decide +kernel) (pa_cons (pv 1) pa_nil)) pa_nil)))))
          (pss_one ps_never) pss_nil)))
      (pss_one (ps_fld (pv 0) (pe_callTy (k_tup (K := K)) (by rfl) T.z_tuple (by decide +kernel) (pa_cons (pe_lc (own := [("row", 3)]) (g := gName 3) (tt := tYes) rfl sc_Table_init.nd (k_pi (K := K) (pv 1)) (blkOk_by (own := [("row", 3)]) (N := Table_init_N) (sc := defScope Table_init_s) (by decide +kernel)) (fun _ _ _ _ _ => (pg_name (i := 3) sc_Table_init.nd rfl (Or.inl rfl))) (fun _ _ _ _ _ => pts_nil) (fun _ _ _ _ _ => (pe_callTy (k_tup (K := K)) (by rfl) T.z_tuple (by decide +kernel) (pa_cons (pv 3) pa_nil)))) pa_nil)) rfl)))), ?_⟩
  refine s_seq (s_if (b_or (b_not (b_val (t_call1 (t_var rfl (spP_bl off_sub (nLL R) (.cons hd .nil) trivial rfl fun H1 s1 => ⟨_, rfl, ifF rfl ?_⟩)))))))
  have kn1 := kn.same s1
  have hd1 := dp_same (off_same s1) _ _ hd
  refine b_not (b_test (t_c (t_cb1 (t_var rfl (len_d off_sub hd1 rfl ⟨_, _, rfl, rfl, ?_⟩)))))
  have e1 : (1 : Int) ≤ ((R.map nL).length : Nat) := by rw [List.length_map]; omega
  refine bl_if (fun _ => ?_) (fun c => absurd e1 (of_decide_eq_false c))
  refine t_c ⟨_, _, rfl, rfl, ⟨_, rfl, ifF ?_ (s_next ?_)⟩⟩
  · rw [decide_eq_true (show (((R.map nL).length : Nat) : Int) ≤ 7 by rw [List.length_map]; omega)]; rfl
  obtain ⟨l, xs, rfl, hs, ha⟩ := list_at hd1
  have lx := dpa_len ha
  rw [List.length_map] at lx
  refine s_seq (s_enum (iv := 1) (a := l) (xs := xs) (s1 := 2) (s2 := 3) rfl (off_sub.seq hs) (fun i σ' H' => ∃ x2 x3 : Option V, σ' = [some (.ref x), some (.ref l), x2, x3] ∧ Same H1 H') ⟨_, _, rfl, Same.refl _⟩ (fun i σ' H' ⟨_, _, _, z⟩ => (off_sub.trans z).seq hs) (fun i y σ' H2 H3 hi xi ⟨x2, x3, e, z2⟩ z3 => ?_) fun σ' H2 ⟨x2, x3, e, z2⟩ => ?_)
  · subst e
    have z := z2.trans z3
    obtain ⟨d, dj, dy⟩ := dpa_at ha xi
    obtain ⟨r, rj, rm, rfl⟩ := at_map dj
    have hd3 := dp_same (off_same z) _ _ hd1
    refine s_if (b_not (b_val (t_call2 (t_var rfl (t_cb1 (t_var rfl (len_d off_sub hd3 rfl ⟨S, (r, R.length), kn1.same z, .cons (dp_same (off_same z) _ _ dy) (.cons (dp_int (by rw [List.length_map])) .nil), ⟨tb.row r rm, p7, tb.num r rm⟩, fun b H4 s4 db => ?_⟩)))))))
    replace db : Dp K (off S H4) b (.bool true) := db
    cases db
    exact ⟨_, rfl, ifF rfl (s_next ⟨_, _, rfl, z.trans s4⟩)⟩
  · subst e
    have hd2 := dp_same (off_same z2) _ _ hd1
    have kn2 := kn1.same z2
    have z := s1.trans z2
    refine nx_of (s_fld (t_cb1 (lcM false R nL nT kn2 (fun Q q => t_var rfl (q _ _ (Same.refl _) hd2)) (by omega) (fun _ => rfl) (fun r hr y H3 S3 s3 kn3 dy hS3 ho Q q => t_cb1 (t_var rfl (tup_d kn3 dy rfl fun u H4 s4 d4 => q u H4 s4 d4))) fun D H3 ys hD s3 hd3 h3 => ?_)))
    refine tup_d (kn2.same s3) h3 rfl fun v1 H4 s4 d4 => ?_
    have hx4 := s4 _ _ (s3 _ _ (z _ _ hx))
    refine t_var rfl ⟨x, C, dx, [], rfl, hx4, U.cls, U.n_rows, by decide, ?_⟩
    have b2 : SameBut x H (upd H4 x (.ins C dx [("_rows", v1)])) := bmut (sbut (z.trans (s3.trans s4)))
    have d5 := dp_same (off_bt (H' := upd H4 x (.ins C dx [("_rows", v1)])) hS (bmut (sbut (Same.refl H4)))) _ _ d4
    exact nx_of (q _ v1 b2 upd_same d5)
/-- a method of a table whose answer is data -/
def spT {α : Type} (K : PySem.W.Frag) (C : Addr) (enc : α → List PyData) (pre : List (List Nat) → α → Prop) (f : List (List Nat) → α → PyData) : Sp := fun vs H Q _ => ∃ (S : Addr → Prop) (R : List (List Nat)) (x : Addr) (y : α) (us : List V), vs = .ref x :: us ∧ Kn S H ∧ TabAt K C (off S H) R x ∧ Tb R ∧ DpAll K (off S H) us (enc y) ∧ pre R y ∧
  ∀ v H', Same H H' → Dp K (off S H') v (f R y) → Q v H'
abbrev spT0 (K : PySem.W.Frag) (C : Addr) (f : List (List Nat) → PyData) : Sp := spT K C (fun _ : Unit => []) (fun _ _ => True) (fun R _ => f R)
theorem spT_len {α : Type} {enc : α → List PyData} {pre : List (List Nat) → α → Prop} {f : List (List Nat) → α → PyData} {n : Nat} (hn : ∀ x, (enc x).length = n) {vs : List V} {H : Hp} {Q : VK} {E : XK} (h : spT K C enc pre f vs H Q E) : vs.length = n + 1 := by
  obtain ⟨S, R, x, y, us, rfl, _, _, _, hd, _⟩ := h
  rw [List.length_cons, dpa_len hd, hn]
theorem mk_table {S : Addr → Prop} {σ : L2.St} {H : Hp} {ta : TE} {Q : VK} (R : List (List Nat)) (tb : Tb R) (kn : Kn S H)
    (hev : ∀ Q : VK, (∀ u H1, Same H H1 → Dp K (off S H1) u (nLL R) → Q u H1) → ta σ H Q)
    (q : ∀ x H', Same H H' → TabAt K C (off S H') R x → Q (.ref x) H') : tMake C (spInit K C) [] E0 (tCons ta tNil) σ H Q := by
  refine t_make1 (hev _ fun u H1 s1 du x dx hx hdx ne => ?_)
  have kn1 := kn.same s1
  have sm : Same H1 (upd (upd H1 dx (.own x)) x (.ins C dx [])) := fun b u e => by
    rw [upd_ne (ne_of_none e hx), upd_ne (ne_of_none e hdx)]; exact e
  have hup : (upd (upd H1 dx (.own x)) x (.ins C dx [])) x = some (.ins C dx []) := upd_same
  refine ⟨plus S x, x, dx, u, R, rfl, (kn1.same sm).plus (some_ne hup), .inr rfl, hup, dp_same ?_ _ _ du, tb, fun H' v1 sb hx' d1 => ⟨rfl, q x H' ?_ ⟨dx, v1, ?_, dp_same off_fin _ _ d1⟩⟩⟩
  · exact off_plus hx sm
  · intro b o h
    exact sb b o (ne_of_none (s1 b o h) hx) (sm b o (s1 b o h))
  · rw [off_out (kn1.new hx)]; exact hx'
theorem fld_rows {S : Addr → Prop} {σ : L2.St} {H : Hp} {R : List (List Nat)} {x : Addr} {i : Nat} {Q : VK} (U : TxC K mg a C) (h : TabAt K C (off S H) R x) (hi : σ[i]? = some (some (.ref x))) (q : ∀ v, Dp K (off S H) v (tT R) → Q v H) : tFld K (tVar i) "_rows" σ H Q := by
  obtain ⟨dx, v, hx, d⟩ := h
  exact t_fld (t_var hi ⟨x, C, dx, _, v, rfl, (off_some hx).2, U.cls, U.n_rows, rfl, q v d⟩)
theorem ok_Table_len (T : Txt K mg a fd C tk) (U : TxC K mg a C) : FnOk P w K mg base CX0 1 (a 8) (fd 8) ["self"] (spT0 K C fun R => nD R.length) := by
  refine T.F_Table_len.ok sc_Table_len (fun vs H Q E h => spT_len (fun _ => rfl) h) (fun cdv A outer s H vs Q E hr h => ?_)
  obtain ⟨S, R, x, y, us, rfl, kn, ht, tb, ⟨⟩, -, q⟩ := h
  refine ⟨_, (pss_one (ps_ret (pe_callB (k_len (K := K)) (by rfl) T.z_len (by decide +kernel) (pa_cons (k_fld (K := K) (pv 0) rfl) pa_nil)))), ?_⟩
  exact s_ret (t_cb1 (fld_rows U ht rfl fun v d => len_d off_sub d rfl (q _ _ (Same.refl _) (dp_int (by rw [List.length_map])))))
/-- len(table) -/
theorem len_tab {S : Addr → Prop} {H : Hp} {R : List (List Nat)} {x : Addr} {Q : VK} (kn : Kn S H) (ht : TabAt K C (off S H) R x) (tb : Tb R) (q : ∀ H', Same H H' → Q (.int (R.length : Nat)) H') : rLenI C (spT0 K C fun R => nD R.length) [.ref x] H Q := by
  refine ⟨.ref x, rfl, tab_isI ht, S, R, x, (), [], rfl, kn, ht, tb, .nil, trivial, fun v H' s d => ?_⟩
  replace d : Dp K (off S H') v (nD R.length) := d
  cases d
  exact ⟨R.length, rfl, Nat.lt_of_le_of_lt tb.few (by decide), q H' s⟩
theorem ok_Table_rows (T : Txt K mg a fd C tk) (U : TxC K mg a C) : FnOk P w K mg base CX0 1 (a 6) (fd 6) ["self"] (spT0 K C nLL) := by
  refine T.F_Table_rows.ok sc_Table_rows (fun vs H Q E h => spT_len (fun _ => rfl) h) (fun cdv A outer s H vs Q E hr h => ?_)
  obtain ⟨S, R, x, y, us, rfl, kn, ht, tb, ⟨⟩, -, q⟩ := h
  have p7 := tb.few
  refine ⟨_, (pss_one (ps_ret (pe_lc (own := [("row", 1)]) (g := gName 1) (tt := tYes) rfl sc_Table_rows.nd (k_pi (K := K) (k_fld (K := K) (pv 0) rfl)) (blkOk_by (own := [("row", 1)]) (N := Table_rows_N) (sc := defScope Table_rows_s) (by decide +kernel)) (fun _ _ _ _ _ => (pg_name (i := 1) sc_Table_rows.nd rfl (Or.inl rfl))) (fun _ _ _ _ _ => pts_nil) (fun _ _ _ _ _ => (pe_callTy (k_list (K := K)) (by rfl) T.z_list (by decide +kernel) (pa_cons (pv 1) pa_nil)))))), ?_⟩
  exact s_ret (lcM true R nT nL kn (fun Q q => fld_rows U ht rfl fun v d => q v _ (Same.refl _) d) (by omega) (fun _ => rfl) (fun r hr y H1 S1 s1 kn1 dy hS ho Q q => t_cb1 (t_var rfl (list_d kn1 dy rfl fun l xs hl ha h => q _ _ (same_new hl) h))) fun D H1 ys hD s1 hd1 h1 => q _ _ s1 h1)
def spCheck (K : PySem.W.Frag) (C : Addr) : Sp := fun vs H Q _ => ∃ (S : Addr → Prop) (R : List (List Nat)) (x : Addr) (n : Nat), vs = [.ref x, .int (n : Nat)] ∧ Kn S H ∧ TabAt K C (off S H) R x ∧ Tb R ∧ n < R.length ∧ ∀ H', Same H H' → Q .non H'
theorem below_ok {n m : Nat} (h : n < m) : belowD ((m : Nat) : Int) (nD n) = true := by
  show (decide (0 ≤ ((n : Nat) : Int)) && decide (((n : Nat) : Int) < (m : Nat))) = true
  rw [decide_eq_true (by omega), decide_eq_true (by omega)]; rfl
theorem ok_check_value (T : Txt K mg a fd C tk) (U : TxC K mg a C) : FnOk P w K mg base CX0 4 (a 11) (fd 11) ["table", "value"] (spCheck K C) := by
  have G_is_number_below : FnOk P w K mg base CX0 3 (a 3) (fd 3) ["value", "many"] (spBelow K) := ok_is_number_below T
  have G_Table_len := ok_Table_len (P := P) (w := w) (base := base) T U
  refine T.F_check_value.ok sc_check_value (fun vs H Q E h => by obtain ⟨_, _, _, _, rfl, _⟩ := h; rfl) (fun cdv A outer s H vs Q E hr h => ?_)
  obtain ⟨S, R, x, n, rfl, kn, ht, tb, hn, q⟩ := h
  refine ⟨_, (pss_one (ps_if (pt_not (pt_val (pe_call G_is_number_below (hr.mono (by omega)) (by rfl) T.m_is_number_below T.F_is_number_below.kp T.b_is_number_below .nil pass0 (pa_cons (pv 1) (pa_cons (pe_callB (call_lenI (runsOk G_Table_len T.b_Table_len) (hr.mono (by omega)) U.me_len) (by rfl) T.z_len (by decide +kernel) (pa_cons (pv 0) pa_nil)) pa_nil)))))
        (pss_one ps_never) pss_nil)), ?_⟩
  refine s_if (b_not (b_val (t_call2 (t_var rfl (t_cb1 (t_var rfl (len_tab kn ht tb fun H1 s1 => ⟨S, (nD n, (R.length : Nat)), kn.same s1, .cons (.int _) (.cons (.int _) .nil), trivial, fun b H2 s2 db => ?_⟩)))))))
  replace db : Dp K (off S H2) b (.bool (belowD ((R.length : Nat) : Int) (nD n))) := db
  rw [below_ok hn] at db
  cases db
  exact ⟨_, rfl, ifF rfl (s_next (q _ (s1.trans s2)))⟩
def e2n (x : Nat × Nat) : List PyData := [nD x.1, nD x.2]
theorem ok_Table_at (T : Txt K mg a fd C tk) (U : TxC K mg a C) : FnOk P w K mg base CX0 5 (a 7) (fd 7) ["self", "x", "y"] (spT K C e2n (fun R x => x.1 < R.length ∧ x.2 < R.length) fun R x => nD (at_ R x.1 x.2)) := by
  have G_check_value := ok_check_value (P := P) (w := w) (base := base) T U
  refine T.F_Table_at.ok sc_Table_at (fun vs H Q E h => spT_len (n := 2) (fun _ => rfl) h) (fun cdv A outer s H vs Q E hr h => ?_)
  obtain ⟨S, R, x, ⟨i, j⟩, us, rfl, kn, ht, tb, hd, ⟨hi, hj⟩, q⟩ := h
  obtain - | ⟨h1, - | ⟨h2, ⟨⟩⟩⟩ := hd
  cases h1
  cases h2
  replace hi : i < R.length := hi
  replace hj : j < R.length := hj
  refine ⟨_, (pss_cons (ps_expr (pe_call G_check_value (hr.mono (by omega)) (by rfl) T.m_check_value T.F_check_value.kp T.b_check_value .nil pass0 (pa_cons (pv 0) (pa_cons (pv 1) pa_nil))))
      (pss_cons (ps_expr (pe_call G_check_value (hr.mono (by omega)) (by rfl) T.m_check_value T.F_check_value.kp T.b_check_value .nil pass0 (pa_cons (pv 0) (pa_cons (pv 2) pa_nil))))
      (pss_one (ps_ret (pe_ix (k_ix (K := K)) (pe_ix (k_ix (K := K)) (k_fld (K := K) (pv 0) rfl) (pv 1) (fun _ _ => rfl)) (pv 2) (fun _ _ => rfl)))))), ?_⟩
  refine s_seq (s_drop (t_call2 (t_var rfl (t_var rfl ⟨S, R, x, i, rfl, kn, ht, tb, hi, fun H1 s1 => nx_of ?_⟩))))
  refine s_seq (s_drop (t_call2 (t_var rfl (t_var rfl ⟨S, R, x, j, rfl, kn.same s1, ht.same (off_same s1), tb, hj, fun H2 s2 => nx_of ?_⟩))))
  have s12 := s1.trans s2
  refine s_ret (t_op (t_op (fld_rows U (ht.same (off_same s12)) rfl fun v d => t_var rfl (ix_d (i := i) off_sub d rfl (row_get tb nT hi) fun u du => t_var rfl (ix_d (i := j) off_sub du rfl (num_get tb hi hj) fun z dz => q z _ s12 dz)))))
def spEqT (K : PySem.W.Frag) (C : Addr) : Sp := fun vs H Q _ => ∃ (S : Addr → Prop) (R : List (List Nat)) (x y : Addr), vs = [.ref x, .ref y] ∧ Kn S H ∧ TabAt K C (off S H) R x ∧ TabAt K C (off S H) R y ∧ ∀ H', Same H H' → Q (.bl true) H'
theorem isi_own {S : Addr → Prop} {H : Hp} {R : List (List Nat)} {x : Addr} {Q : VK} (U : TxC K mg a C) (D : TxD K C) (h : TabAt K C (off S H) R x) (q : Q (.bl true) H) : rIsi K [.ref x, .ref C] H Q := by
  obtain ⟨dx, v, hx, _⟩ := h
  exact ⟨_, _, .ref C, .ref C, true, rfl, .own C, .base (.ins (off_some hx).2 U.cls D.ha D.hn D.htk D.hm), D.own, q⟩
theorem ok_Table_eq (T : Txt K mg a fd C tk) (U : TxC K mg a C) (D : TxD K C) : FnOk P w K mg base CX0 2 (a 9) (fd 9) ["self", "other"] (spEqT K C) := by
  refine T.F_Table_eq.ok sc_Table_eq (fun vs H Q E h => by obtain ⟨_, _, _, _, rfl, _⟩ := h; rfl) (fun cdv A outer s H vs Q E hr h => ?_)
  obtain ⟨S, R, x, y, rfl, kn, hx, hy, q⟩ := h
  refine ⟨_, (pss_one (ps_ret (pe_and (pe_callB (k_isi (K := K)) (by rfl) T.z_isinstance (by decide +kernel) (pa_cons (pv 1) (pa_cons (pe_glob (v := .ref _) (by rfl) U.m_Table rfl) pa_nil))) (pe_one (pe_cmpR (k_eqD (K := K) hr.units) (k_fld (K := K) (pv 0) rfl) (k_fld (K := K) (pv 1) rfl) (nomark _)))))), ?_⟩
  refine s_ret (t_andV (t_cb2 (t_var rfl (t_c (isi_own U D hy (bl_ifT ?_))))))
  refine t_op (fld_rows U hx rfl fun v1 d1 => fld_rows U hy rfl fun v2 d2 => ⟨_, _, dp_same off_sub _ _ d1, dp_same off_sub _ _ d2, shaped_tT R, shaped_tT R, ?_⟩)
  rw [eqv_tT]
  exact q H (Same.refl _)
end
end K31

set_option maxRecDepth 100000
set_option maxHeartbeats 4000000
namespace K31
open PySem PySem.Spec PyProof.Rows L2 Kh
section
variable {P : Program} {w : World} {K : PySem.W.Frag} {mg : Str → Option Value} {base : Heap} {a : Nat → Addr} {fd : Nat → FuncData} {C : Addr} {tk : Nat → Tok}
theorem fn_none {k : Nat} {f : Addr} {fd : FuncData} {ps : List Str} {sp : Sp} (h : ∀ vs H Q E, sp vs H Q E → False) : FnOk P w K mg base CX0 k f fd ps sp :=
  ⟨fun vs H Q E q => (h vs H Q E q).elim, fun _ _ _ H _ _ vs Q E _ _ _ _ q => (h vs H Q E q).elim⟩
end
end K31

set_option maxRecDepth 100000
set_option maxHeartbeats 4000000
namespace K31
open PySem PySem.Spec PyProof.Rows L2 Kh
/-! melts: what is a tuple of two is two melts -/
def leafs : PyData → List PyData
  | .tuple [a, b] => leafs a ++ leafs b
  | d => [d]
def msz : PyData → Nat
  | .tuple [a, b] => 1 + msz a + msz b
  | _ => 1
def mdp : PyData → Nat
  | .tuple [a, b] => 1 + max (mdp a) (mdp b)
  | _ => 0
theorem leafs_pair (a b : PyData) : leafs (.tuple [a, b]) = leafs a ++ leafs b := by rw [leafs]
theorem msz_pair (a b : PyData) : msz (.tuple [a, b]) = 1 + msz a + msz b := by rw [msz]
theorem mdp_pair (a b : PyData) : mdp (.tuple [a, b]) = 1 + max (mdp a) (mdp b) := by rw [mdp]
def isPair : PyData → Bool
  | .tuple [_, _] => true
  | _ => false
theorem pair_of {d : PyData} (h : isPair d = true) : ∃ a b, d = .tuple [a, b] := by
  unfold isPair at h
  split at h
  · exact ⟨_, _, rfl⟩
  · cases h
theorem leafs_one {d : PyData} (h : isPair d = false) : leafs d = [d] := by
  unfold leafs
  split
  · cases h
  · rfl
theorem msz_one {d : PyData} (h : isPair d = false) : msz d = 1 := by
  unfold msz
  split
  · cases h
  · rfl
theorem mdp_one {d : PyData} (h : isPair d = false) : mdp d = 0 := by
  unfold mdp
  split
  · cases h
  · rfl
theorem msz_pos (d : PyData) : 1 ≤ msz d := by
  cases h : isPair d with
  | true => obtain ⟨a, b, rfl⟩ := pair_of h; rw [msz_pair]; omega
  | false => rw [msz_one h]; exact Nat.le_refl _
theorem pair_ind {Pr : PyData → Prop} (h1 : ∀ d, isPair d = false → Pr d) (h2 : ∀ a b, Pr a → Pr b → Pr (.tuple [a, b])) : ∀ (n : Nat) (d : PyData), msz d ≤ n → Pr d
  | 0, d, h => by have := msz_pos d; omega
  | n + 1, d, h => by
    cases e : isPair d with
    | false => exact h1 d e
    | true =>
      obtain ⟨a, b, rfl⟩ := pair_of e
      rw [msz_pair] at h
      exact h2 a b (pair_ind h1 h2 n a (by have := msz_pos b; omega)) (pair_ind h1 h2 n b (by have := msz_pos a; omega))
def toN : PyData → Nat
  | .int i => i.toNat
  | _ => 0
/-- the values of a melt -/
def vals (d : PyData) : List Nat := (leafs d).map toN
/-- of values below m alone -/
def meltA (m : Nat) (d : PyData) : Bool := (leafs d).all fun e => belowD ((m : Nat) : Int) e
def meltOk (m : Nat) (d : PyData) : Bool := meltA m d && decide ((leafs d).length ≤ 40)
theorem below_nat {m : Nat} {e : PyData} (h : belowD ((m : Nat) : Int) e = true) : e = nD (toN e) ∧ toN e < m := by
  cases e with
  | int i =>
    have h' : (decide (0 ≤ i) && decide (i < ((m : Nat) : Int))) = true := h
    rw [Bool.and_eq_true] at h'
    have h1 := of_decide_eq_true h'.1
    have h2 := of_decide_eq_true h'.2
    refine ⟨?_, ?_⟩
    · unfold nD toN; rw [Int.toNat_of_nonneg h1]
    · show i.toNat < m; omega
  | _ => cases h
theorem all_below {m : Nat} : ∀ {l : List PyData}, (l.all fun e => belowD ((m : Nat) : Int) e) = true → l = (l.map toN).map nD ∧ ∀ n ∈ l.map toN, n < m
  | [], _ => ⟨rfl, fun n h => by simp at h⟩
  | e :: l, h => by
    rw [List.all_cons, Bool.and_eq_true] at h
    obtain ⟨h1, h2⟩ := below_nat h.1
    obtain ⟨h3, h4⟩ := all_below h.2
    refine ⟨?_, fun n hn => ?_⟩
    · rw [List.map_cons, List.map_cons, ← h1, ← h3]
    · rw [List.map_cons] at hn
      rcases List.mem_cons.mp hn with rfl | hn
      · exact h2
      · exact h4 n hn
def msum (ds : List PyData) : Nat := (ds.map msz).sum
theorem msum_app (a b : List PyData) : msum (a ++ b) = msum a + msum b := by unfold msum; rw [List.map_append, List.sum_append]
theorem msum_one (d : PyData) : msum [d] = msz d := by unfold msum; simp
theorem len_msum : ∀ ds : List PyData, ds.length ≤ msum ds
  | [] => Nat.zero_le _
  | d :: ds => by
    have h1 := len_msum ds
    have h2 := msz_pos d
    have : msum (d :: ds) = msz d + msum ds := by unfold msum; simp
    rw [this, List.length_cons]; omega
theorem tup_len2 {d : PyData} {ds : List PyData} (h : d = .tuple ds) : isPair d = decide (ds.length = 2) := by
  subst h
  match ds with
  | [] => rfl
  | [_] => rfl
  | [_, _] => rfl
  | _ :: _ :: _ :: r => unfold isPair; exact (decide_eq_false (by simp)).symm
section
variable {P : Program} {w : World} {K : PySem.W.Frag} {mg : Str → Option Value} {base : Heap} {a : Nat → Addr} {fd : Nat → FuncData} {C : Addr} {tk : Nat → Tok}
def spMelted (K : PySem.W.Frag) (C : Addr) : Sp := fun vs H Q _ => ∃ (S : Addr → Prop) (R : List (List Nat)) (x : Addr) (d : PyData) (v : V), vs = [.ref x, v] ∧ Kn S H ∧ TabAt K C (off S H) R x ∧ Tb R ∧ Dp K (off S H) v d ∧ msz d ≤ 10000 ∧
  (meltOk R.length d = true → ∀ u H', Same H H' → Dp K (off S H') u (nL (vals d).reverse) → Q u H') ∧ (meltOk R.length d = false → ∀ H', Same H H' → Q .non H')
theorem not_ok {m : Nat} {d e : PyData} {l1 l2 : List PyData} (h : leafs d = l1 ++ e :: l2) (he : belowD ((m : Nat) : Int) e = false ∨ 40 ≤ l2.length) : meltOk m d = false := by
  unfold meltOk meltA
  rw [h]
  rcases he with he | he
  · rw [List.all_append, List.all_cons, he]; simp
  · rw [decide_eq_false (show ¬ (l1 ++ e :: l2).length ≤ 40 by rw [List.length_append, List.length_cons]; omega)]; simp
theorem ok_melted (T : Txt K mg a fd C tk) (U : TxC K mg a C) : FnOk P w K mg base CX0 5 (a 12) (fd 12) ["table", "value"] (spMelted K C) := by
  have G_is_number_below : FnOk P w K mg base CX0 3 (a 3) (fd 3) ["value", "many"] (spBelow K) := ok_is_number_below T
  have G_Table_len := ok_Table_len (P := P) (w := w) (base := base) T U
  refine T.F_melted.ok sc_melted (fun vs H Q E h => by obtain ⟨_, _, _, _, _, rfl, _⟩ := h; rfl) (fun cdv A outer s H vs Q E hr h => ?_)
  obtain ⟨S, R, x, d, v, rfl, kn, ht, tb, hd, small, qy, qn⟩ := h
  refine ⟨_, (pss_cons (ps_set (i := 2) sc_melted.nd rfl (Or.inl rfl) (pe_lst pa_nil))
      (pss_cons (ps_set (i := 3) sc_melted.nd rfl (Or.inl rfl) (pe_lst (pa_cons (pv 1) pa_nil)))
      (pss_cons (ps_while PassesOwn.never (pt_cmpR op_gt (pe_callB (k_len (K := K)) (by rfl) T.z_len (by decide +kernel) (pa_cons (pv 3) pa_nil)) pe_int (nomark _))
        (pss_cons (ps_set (i := 4) sc_melted.nd rfl (Or.inl rfl) (pe_bm0 PySem.F.plainAttrs_list PySem.F.slot_list_pop PySem.F.type_list_pop mt_pop (pv 3)))
        (pss_one (ps_if (PW.pt (pw_and (pt_val (pe_callB (k_isi (K := K)) (by rfl) T.z_isinstance (by decide +kernel) (pa_cons (pv 4) (pa_cons (pe_bltn (v := .ty "tuple") (by rfl) T.z_tuple (by decide +kernel) rfl) pa_nil)))) (pw_and1 (pt_cmpR op_eq (pe_callB (k_len (K := K)) (by rfl) T.z_len (by decide +kernel) (pa_cons (pv 4) pa_nil)) pe_int (nomark _)))))
          (pss_one (ps_expr (pe_bm PySem.F.plainAttrs_list PySem.F.slot_list_extend PySem.F.type_list_extend (k_ext (K := K)) (pv 3) (pa_cons (pv 4) pa_nil)))) (pss_one (ps_if (PW.pt (pw_and (pt_val (pe_call G_is_number_below (hr.mono (by omega)) (by rfl) T.m_is_number_below T.F_is_number_below.kp T.b_is_number_below .nil pass0 (pa_cons (pv 4) (pa_cons (pe_callB (call_lenI (runsOk G_Table_len T.b_Table_len) (hr.mono (by omega)) U.me_len) (by rfl) T.z_len (by decide +kernel) (pa_cons (pv 0) pa_nil)) pa_nil)))) (pw_and1 (pt_cmpR op_lt (pe_callB (k_len (K := K)) (by rfl) T.z_len (by decide +kernel) (pa_cons (pv 2) pa_nil)) (pe_glob (v := .int 40) (by rfl) T.m_MOST_MELTED ⟨_, rfl⟩) (nomark _)))))
            (pss_one (ps_expr (pe_bm PySem.F.plainAttrs_list PySem.F.slot_list_append PySem.F.type_list_append mt_append (pv 2) (pa_cons (pv 4) pa_nil)))) (pss_one (ps_ret pe_non))))))))
      (pss_one (ps_ret (pv 2)))))), ?_⟩
  refine s_seq (s_set (t_lst0 fun F hF => nx_of ?_))
  refine s_seq (s_set (t_lst (a_cons (t_var rfl (a_nil ⟨le1, fun W hW => nx_of ?_⟩)))))
  have sF := same_new (o := HO.lst []) hF
  have sW := same_new (o := HO.lst [v]) hW
  have FW : F ≠ W := ne_of_none (upd_same (H := H)) hW
  have hW0 : H W = none := sF.free hW
  have hFu : (upd (upd H F (.lst [])) W (.lst [v])) F = some (.lst []) := by rw [upd_ne FW]; exact upd_same
  have hWu : (upd (upd H F (.lst [])) W (.lst [v])) W = some (.lst [v]) := upd_same
  have sFW := sF.trans sW
  generalize upd (upd H F (.lst [])) W (.lst [v]) = H0 at *
  refine s_seq ⟨fun m σ H' => ∃ (ws : List V) (ds : List PyData) (fs : List Nat) (x4 : Option V), σ = [some (.ref x), some v, some (.ref F), some (.ref W), x4] ∧ H' W = some (.lst ws) ∧ H' F = some (.lst (ivs fs)) ∧ DpAll K (off S H) ws ds ∧ leafs d = ds.flatMap leafs ++ (fs.map nD).reverse ∧ fs.length ≤ 40 ∧ (∀ n ∈ fs, n < R.length) ∧ msum ds ≤ 10000 ∧ Same H H' ∧ m = msum ds,
    ⟨_, [v], [d], [], none, rfl, hWu, hFu, .cons hd .nil, by simp, by simp, fun n h => by simp at h, by rw [msum_one]; exact small, sFW, rfl⟩, ?_⟩
  rintro m σ H' ⟨ws, ds, fs, x4, rfl, hw, hf, da, el, l40, bel, sz, sm, rfl⟩
  have ln := dpa_len da
  refine b_test (t_op (t_cb1 (t_var rfl ⟨W, _, rfl, .inl (sqL hw), t_c ⟨_, _, rfl, rfl, ⟨_, rfl, ?_⟩⟩⟩)))
  rcases List.eq_nil_or_concat ds with rfl | ⟨ds', e, rfl⟩
  · have e0 : ws = [] := List.eq_nil_of_length_eq_zero ln
    subst e0
    refine ifF (by decide) (nx_of ?_)
    have ed : leafs d = (fs.map nD).reverse := by rw [el]; simp
    have ok : meltOk R.length d = true := by
      unfold meltOk meltA
      rw [ed, List.all_reverse, List.length_reverse, List.length_map, decide_eq_true l40, Bool.and_true]
      exact List.all_eq_true.mpr fun z hz => by
        obtain ⟨n, hn, rfl⟩ := List.mem_map.mp hz
        exact below_ok (bel n hn)
    have ev : (vals d).reverse = fs := by
      unfold vals
      rw [ed, List.map_reverse, List.reverse_reverse, List.map_map]
      have : (toN ∘ nD) = id := by funext n; simp [toN, nD]
      rw [this, List.map_id]
    refine s_ret (t_var rfl (qy ok _ _ sm ?_))
    rw [ev]
    exact dp_lst (kn.new hF) hf (nats_dpa fs)
  · rw [List.concat_eq_append] at da el sz ln ⊢
    obtain ⟨ws', u, rfl, d1, d2⟩ := dpa_snoc da
    have ep : msum (ds' ++ [e]) = msum ds' + msz e := by rw [msum_app, msum_one]
    rw [ep] at sz
    have epos := msz_pos e
    refine ifT (decide_eq_true (by rw [List.length_append, List.length_singleton]; omega)) ⟨fun σ' H'' => ∃ (ws : List V) (ds : List PyData) (fs : List Nat) (x4 : Option V), σ' = [some (.ref x), some v, some (.ref F), some (.ref W), x4] ∧ H'' W = some (.lst ws) ∧ H'' F = some (.lst (ivs fs)) ∧ DpAll K (off S H) ws ds ∧ leafs d = ds.flatMap leafs ++ (fs.map nD).reverse ∧ fs.length ≤ 40 ∧ (∀ n ∈ fs, n < R.length) ∧ msum ds ≤ 10000 ∧ Same H H'' ∧ msum ds < msum (ds' ++ [e]), ?_, ?_⟩
    · rintro σ' H'' ⟨ws, ds, fs, x4, h1, h2, h3, h4, h5, h6, h7, h8, h9, h10⟩
      exact ⟨_, h10, ws, ds, fs, x4, h1, h2, h3, h4, h5, h6, h7, h8, h9, rfl⟩
    refine s_seq (s_set (t_bm0 (t_var rfl ⟨.inl ⟨rfl, _, sqL hw⟩, W, _, u, rfl, rfl, hw, by simp, ?_⟩)))
    have e1 : (ws' ++ [u]).dropLast = ws' := by simp
    rw [e1]
    have sm1 : Same H (upd H' W (.lst ws')) := smut sm hW0
    have hw1 : (upd H' W (.lst ws')) W = some (.lst ws') := upd_same
    have hf1 : (upd H' W (.lst ws')) F = some (.lst (ivs fs)) := by rw [upd_ne FW]; exact hf
    generalize upd H' W (.lst ws') = H1 at *
    have dU : ∀ {H2}, Same H H2 → Dp K (off S H2) u e := fun {H2} s => dp_same (off_same s) _ _ d2
    rw [List.flatMap_append, List.flatMap_cons, List.flatMap_nil, List.append_nil] at el
    -- what is no pair
    have leaf : isPair e = false → tIfS (tAnd (tB (tCall (spBelow K) [] E0 (tCons (tVar 4) (tCons (tCB (rLenI C (spT0 K C fun R => nD R.length)) (tCons (tVar 0) tNil)) tNil)))) (tTest (tOp (rI0 fun i j => V.bl (decide (i < j))) (tCB (Kh.rLen K) (tCons (tVar 2) tNil)) (tC (V.int 40))))) (tDrop (tBM K "list" rAppend (tVar 2) (tCons (tVar 4) tNil))) (tRet (tC V.non)) { nx := fun σ' H'' => ∃ (ws : List V) (ds : List PyData) (fs : List Nat) (x4 : Option V), σ' = [some (.ref x), some v, some (.ref F), some (.ref W), x4] ∧ H'' W = some (.lst ws) ∧ H'' F = some (.lst (ivs fs)) ∧ DpAll K (off S H) ws ds ∧ leafs d = ds.flatMap leafs ++ (fs.map nD).reverse ∧ fs.length ≤ 40 ∧ (∀ n ∈ fs, n < R.length) ∧ msum ds ≤ 10000 ∧ Same H H'' ∧ msum ds < msum (ds' ++ [e]), rt := Q } [some (.ref x), some v, some (.ref F), some (.ref W), some u] H1 := by
      intro hp
      have ld : leafs d = ds'.flatMap leafs ++ e :: (fs.map nD).reverse := by rw [el, leafs_one hp, List.append_assoc]; rfl
      refine s_if (b_and (b_val (t_call2 (t_var rfl (t_cb1 (t_var rfl (len_tab (kn.same sm1) (ht.same (off_same sm1)) tb fun H2 s2 => ⟨S, (e, (R.length : Nat)), (kn.same sm1).same s2, .cons (dU (sm1.trans s2)) (.cons (.int _) .nil), trivial, fun b H3 s3 db => ?_⟩)))))))
      replace db : Dp K (off S H3) b (.bool (belowD ((R.length : Nat) : Int) e)) := db
      cases db
      have sm3 := (sm1.trans s2).trans s3
      have hw3 := s3 _ _ (s2 _ _ hw1)
      have hf3 := s3 _ _ (s2 _ _ hf1)
      refine ⟨_, rfl, ?_⟩
      cases hb : belowD ((R.length : Nat) : Int) e with
      | false =>
        exact ifF rfl (ifF rfl (s_ret (t_c (qn (not_ok ld (.inl hb)) _ sm3))))
      | true =>
        obtain ⟨he, hn⟩ := below_nat hb
        refine ifT rfl (b_test (t_op (t_cb1 (t_var rfl ⟨F, _, rfl, .inl (sqL hf3), t_c ⟨_, _, rfl, rfl, ⟨_, rfl, ?_⟩⟩⟩))))
        rw [List.length_map]
        by_cases h40 : fs.length < 40
        · refine ifT (decide_eq_true (by omega)) (s_drop (t_bm (t_var rfl ⟨.inl ⟨rfl, _, sqL hf3⟩, a_cons (t_var rfl (a_nil ⟨F, _, _, rfl, rfl, hf3, Nat.lt_of_le_of_lt (show (ivs fs).length ≤ 100 by rw [List.length_map]; omega) (by decide), nx_of ?_⟩))⟩)))
          have du := dU sm1
          rw [he] at du
          have eu : u = .int ((toN e : Nat) : Int) := by
            have : ∀ {v : V} {n : Nat}, Dp K (off S H1) v (nD n) → v = .int (n : Nat) := fun h => by cases h; rfl
            exact this du
          refine ⟨ws', ds', fs ++ [toN e], _, rfl, by rw [upd_ne (Ne.symm FW)]; exact hw3, ?_, d1, ?_, by rw [List.length_append, List.length_singleton]; omega, ?_, by omega, smut sm3 hF, by rw [ep]; omega⟩
          · rw [upd_same, eu]; simp [ivs]
          · rw [ld, List.map_append, List.reverse_append, List.map_singleton, ← he]; rfl
          · intro n hn'
            rcases List.mem_append.mp hn' with hn' | hn'
            · exact bel n hn'
            · rw [List.mem_singleton.mp hn']; exact hn
        · refine ifF (decide_eq_false (by omega)) (s_ret (t_c (qn (not_ok ld (.inr ?_)) _ sm3)))
          rw [List.length_reverse, List.length_map]; omega
    refine s_if (b_and (b_val (t_cb2 (t_var rfl (t_c (isi_d off_sub (dU sm1) (kit_tup e) ⟨_, rfl, ?_⟩))))))
    cases e with
    | tuple es =>
      obtain ⟨z, zs, rfl, hz, dz⟩ := tup_at d2
      have du := dU sm1
      refine ifT rfl (b_test (t_op (t_cb1 (t_var rfl (len_d off_sub du rfl (t_c ⟨rfl, _, rfl, ?_⟩))))))
      have ep2 := tup_len2 (d := .tuple es) rfl
      by_cases h2 : es.length = 2
      · refine ifT (decide_eq_true (by rw [h2]; rfl)) ?_
        obtain ⟨e1, e2, rfl⟩ : ∃ e1 e2, es = [e1, e2] := by
          match es, h2 with
          | [e1, e2], _ => exact ⟨e1, e2, rfl⟩
        rw [msz_pair] at ep sz
        rw [leafs_pair] at el
        have lw := dpa_len d1
        have lz := dpa_len dz
        have lm := len_msum ds'
        have lz2 : zs.length = 2 := lz
        have e12 : msum [e1, e2] = msz e1 + msz e2 := by unfold msum; simp
        refine s_drop (t_bm (t_var rfl ⟨.inl ⟨rfl, _, sqL hw1⟩, a_cons (t_var rfl (a_nil ⟨W, z, ws', zs, rfl, rfl, hw1, .inr (same_t (off_sub.trans sm1) hz), Nat.le_trans (show ws'.length + zs.length ≤ 100000 by omega) (by decide), nx_of ?_⟩))⟩))
        refine ⟨ws' ++ zs, ds' ++ [e1, e2], fs, _, rfl, upd_same, by rw [upd_ne FW]; exact hf1, dpa_app d1 dz, ?_, l40, bel, by rw [msum_app, e12]; omega, smut sm1 hW0, by rw [msum_app, e12, ep]; omega⟩
        rw [el, List.flatMap_append]; simp
      · refine ifF (decide_eq_false fun h => h2 (by have := V.int.inj h; omega)) ?_
        rw [decide_eq_false h2] at ep2
        exact leaf ep2
    | none => exact ifF rfl (leaf rfl)
    | bool b => exact ifF rfl (leaf rfl)
    | int i => exact ifF rfl (leaf rfl)
    | str x => exact ifF rfl (leaf rfl)
    | list l => exact ifF rfl (leaf rfl)
    | dict l => cases d2
def spIsMelt (K : PySem.W.Frag) (C : Addr) : Sp := fun vs H Q _ => ∃ (S : Addr → Prop) (R : List (List Nat)) (x : Addr) (d : PyData) (v : V), vs = [.ref x, v] ∧ Kn S H ∧ TabAt K C (off S H) R x ∧ Tb R ∧ Dp K (off S H) v d ∧ msz d ≤ 10000 ∧ ∀ H', Same H H' → Q (.bl (meltOk R.length d)) H'
theorem ok_is_melt (T : Txt K mg a fd C tk) (U : TxC K mg a C) : FnOk P w K mg base CX0 6 (a 13) (fd 13) ["table", "value"] (spIsMelt K C) := by
  have G_melted := ok_melted (P := P) (w := w) (base := base) T U
  refine T.F_is_melt.ok sc_is_melt (fun vs H Q E h => by obtain ⟨_, _, _, _, _, rfl, _⟩ := h; rfl) (fun cdv A outer s H vs Q E hr h => ?_)
  obtain ⟨S, R, x, d, v, rfl, kn, ht, tb, hd, small, q⟩ := h
  refine ⟨_, (pss_one (ps_ret (pe_cmpR op_notN (pe_call G_melted (hr.mono (by omega)) (by rfl) T.m_melted T.F_melted.kp T.b_melted .nil pass0 (pa_cons (pv 0) (pa_cons (pv 1) pa_nil))) pe_non (nomark _)))), ?_⟩
  refine s_ret (t_op (t_call2 (t_var rfl (t_var rfl ⟨S, R, x, d, v, rfl, kn, ht, tb, hd, small, fun ok u H' s' du => t_c ⟨rfl, ?_⟩, fun ok H' s' => t_c ⟨rfl, ?_⟩⟩))))
  · obtain ⟨l, xs, rfl, _, _⟩ := list_at (ds := (vals d).reverse.map nD) du
    have e : (!decide (V.ref l = V.non)) = true := by simp
    rw [e, ← ok]; exact q H' s'
  · have e : (!decide (V.non = V.non)) = false := by simp
    rw [e, ← ok]; exact q H' s'
/-- the result of a melt -/
def res (R : List (List Nat)) : PyData → Nat
  | .tuple [a, b] => at_ R (res R a) (res R b)
  | d => toN d
theorem res_pair (R : List (List Nat)) (a b : PyData) : res R (.tuple [a, b]) = at_ R (res R a) (res R b) := by rw [res]
theorem res_one {R : List (List Nat)} {d : PyData} (h : isPair d = false) : res R d = toN d := by
  unfold res
  split
  · cases h
  · rfl
theorem meltA_pair {m : Nat} {a b : PyData} : meltA m (.tuple [a, b]) = true ↔ meltA m a = true ∧ meltA m b = true := by
  unfold meltA
  rw [leafs_pair, List.all_append, Bool.and_eq_true]
theorem meltA_one {m : Nat} {d : PyData} (h : isPair d = false) (ok : meltA m d = true) : d = nD (toN d) ∧ toN d < m := by
  unfold meltA at ok
  rw [leafs_one h] at ok
  exact below_nat (by simpa using ok)
theorem res_lt {R : List (List Nat)} (tb : Tb R) : ∀ d, meltA R.length d = true → res R d < R.length := fun d => by
  refine pair_ind (Pr := fun d => meltA R.length d = true → res R d < R.length) (fun d h ok => ?_) (fun a b ha hb ok => ?_) (msz d) d (Nat.le_refl _)
  · rw [res_one h]; exact (meltA_one h ok).2
  · have := meltA_pair.mp ok
    rw [res_pair]; exact (tb.at_get (ha this.1) (hb this.2)).2
theorem t_meth2 {ta tb tc : TE} {sp : Sp} {σ : L2.St} {H : Hp} {Q : VK} {E : XK} {m : Str} (h : ta σ H fun x H1 => ∃ a dx fs, x = .ref a ∧ H1 a = some (.ins C dx fs) ∧ fs.lookup m = none ∧ tb σ H1 fun y H2 => tc σ H2 fun z H3 => sp [x, y, z] H3 Q E) : tMeth C m sp [] E ta (tCons tb (tCons tc tNil)) σ H Q := h
def spRes (K : PySem.W.Frag) (C : Addr) (k : Nat) : Sp := fun vs H Q _ => ∃ (S : Addr → Prop) (R : List (List Nat)) (x : Addr) (d : PyData) (v : V), vs = [.ref x, v] ∧ Kn S H ∧ TabAt K C (off S H) R x ∧ Tb R ∧ Dp K (off S H) v d ∧ meltA R.length d = true ∧ mdp d < k ∧ ∀ H', Same H H' → Q (.int (res R d : Nat)) H'
theorem kTup_one {d : PyData} {m : Nat} (h : isPair d = false) (ok : meltA m d = true) : kTup d = false := by
  rw [(meltA_one h ok).1]; rfl
theorem ok_result_of (T : Txt K mg a fd C tk) (U : TxC K mg a C) : ∀ k, FnOk P w K mg base CX0 (k + 6) (a 14) (fd 14) ["table", "melt"] (spRes K C k)
  | 0 => fn_none fun _ _ _ _ h => by
    obtain ⟨_, _, _, _, _, _, _, _, _, _, _, h, _⟩ := h
    exact Nat.not_lt_zero _ h
  | k + 1 => by
    have G_result_of := ok_result_of T U k
    have G_Table_at := ok_Table_at (P := P) (w := w) (base := base) T U
    refine T.F_result_of.ok sc_result_of (fun vs H Q E h => by obtain ⟨_, _, _, _, _, rfl, _⟩ := h; rfl) (fun cdv A outer s H vs Q E hr h => ?_)
    obtain ⟨S, R, x, d, v, rfl, kn, ht, tb, hd, ok, dp, q⟩ := h
    refine ⟨_, (pss_cons (ps_if (pt_not (pt_val (pe_callB (k_isi (K := K)) (by rfl) T.z_isinstance (by decide +kernel) (pa_cons (pv 1) (pa_cons (pe_bltn (v := .ty "tuple") (by rfl) T.z_tuple (by decide +kernel) rfl) pa_nil)))))
        (pss_one (ps_ret (pv 1))) pss_nil)
      (pss_one (ps_ret (pe_meth (pv 0) U.cls U.me_at G_Table_at (hr.mono (by omega)) T.b_Table_at .nil pass0 (pa_cons (pe_call G_result_of (hr.mono (by omega)) (by rfl) T.m_result_of T.F_result_of.kp T.b_result_of .nil pass0 (pa_cons (pv 0) (pa_cons (pe_ix (k_ix (K := K)) (pv 1) pe_int (fun _ _ => rfl)) pa_nil))) (pa_cons (pe_call G_result_of (hr.mono (by omega)) (by rfl) T.m_result_of T.F_result_of.kp T.b_result_of .nil pass0 (pa_cons (pv 0) (pa_cons (pe_ix (k_ix (K := K)) (pv 1) pe_int (fun _ _ => rfl)) pa_nil))) pa_nil)))))), ?_⟩
    refine s_seq (s_if (b_not (b_val (t_cb2 (t_var rfl (t_c (isi_d off_sub hd (kit_tup d) ⟨_, rfl, ?_⟩)))))))
    cases hp : isPair d with
    | false =>
      refine ifT (by rw [kTup_one hp ok]; rfl) (s_ret (t_var rfl ?_))
      have e := (meltA_one hp ok).1
      have er := res_one (R := R) hp
      rw [e] at hd
      have ev : v = .int ((toN d : Nat) : Int) := by
        have : ∀ {v : V} {n : Nat}, Dp K (off S H) v (nD n) → v = .int (n : Nat) := fun h => by cases h; rfl
        exact this hd
      rw [ev, ← er]; exact q H (Same.refl _)
    | true =>
      obtain ⟨d1, d2, rfl⟩ := pair_of hp
      rw [mdp_pair] at dp
      have oks := meltA_pair.mp ok
      obtain ⟨dx, fv, hx, _⟩ := id ht
      refine ifF rfl (s_next (s_ret (t_meth2 (t_var rfl ⟨x, dx, _, rfl, (off_some hx).2, rfl, t_call2 (t_var rfl (t_op (t_var rfl (t_c (ix_d (i := 0) off_sub hd rfl rfl fun u1 e1 => ⟨S, R, x, d1, u1, rfl, kn, ht, tb, e1, oks.1, by omega, fun H1 s1 => t_call2 (t_var rfl (t_op (t_var rfl (t_c (ix_d (i := 1) off_sub (dp_same (off_same s1) _ _ hd) rfl rfl fun u2 e2 => ⟨S, R, x, d2, u2, rfl, kn.same s1, ht.same (off_same s1), tb, e2, oks.2, by omega, fun H2 s2 => ?_⟩)))))⟩)))))⟩))))
      refine ⟨S, R, x, (res R d1, res R d2), _, rfl, (kn.same s1).same s2, ht.same (off_same (s1.trans s2)), tb, .cons (.int _) (.cons (.int _) .nil), ⟨res_lt tb d1 oks.1, res_lt tb d2 oks.2⟩, fun z H3 s3 dz => ?_⟩
      replace dz : Dp K (off S H3) z (nD (at_ R (res R d1) (res R d2))) := dz
      cases dz
      rw [← res_pair]; exact q _ ((s1.trans s2).trans s3)
end
end K31

set_option maxRecDepth 100000
set_option maxHeartbeats 4000000
namespace K31
open PySem PySem.Spec PyProof.Rows L2 Kh
/-! tables that melt -/
structure Melts (R : List (List Nat)) : Prop where
  idem : ∀ x, x < R.length → at_ R x x = x
  comm : ∀ x y, x < R.length → y < R.length → at_ R x y = at_ R y x
  assoc : ∀ x y z, x < R.length → y < R.length → z < R.length → at_ R (at_ R x y) z = at_ R x (at_ R y z)
/-- unlike ones, rising -/
def uq (l : List Nat) : List Nat := (List.range 8).filter fun n => decide (n ∈ l)
theorem uq_mem {l : List Nat} (h : ∀ n ∈ l, n < 8) {n : Nat} : n ∈ uq l ↔ n ∈ l := by
  unfold uq
  rw [List.mem_filter, List.mem_range, decide_eq_true_iff]
  exact ⟨fun q => q.2, fun q => ⟨h n q, q⟩⟩
theorem uq_rise (l : List Nat) : (uq l).Pairwise (· < ·) := List.Pairwise.filter _ List.pairwise_lt_range
theorem uq_same {l m : List Nat} (h : ∀ n, n ∈ l ↔ n ∈ m) : uq l = uq m := by
  unfold uq
  exact List.filter_congr fun n _ => decide_eq_decide.mpr (h n)
theorem uq_iff {l m : List Nat} (hl : ∀ n ∈ l, n < 8) (hm : ∀ n ∈ m, n < 8) : uq l = uq m ↔ ∀ n, n ∈ l ↔ n ∈ m :=
  ⟨fun h n => by rw [← uq_mem hl, ← uq_mem hm, h], uq_same⟩
theorem rise_natZ : ∀ {l : List Nat}, l.Pairwise (· < ·) → (l.map fun n : Nat => ((n : Nat) : Int)).Pairwise (· < ·) := fun h => List.pairwise_map.mpr (h.imp fun q => by omega)
theorem k_sset {X : Cx} {w : World} (hc : X.calm = true) (h : X.w = w := by rfl) : CallR X (.builtin "sorted") (rSortedSet w) := by subst h; exact cr_sortedSet hc
theorem k_setW {X : Cx} {K : PySem.W.Frag} {w : World} (hc : X.calm = true) (h : X.K = K := by rfl) (hw : X.w = w := by rfl) : CallR X (.type "set") (rSetOf K w) := by subst h; subst hw; exact cr_setOf hc
theorem sort_set {K : PySem.W.Frag} {w : World} {S : Addr → Prop} {H : Hp} {v : V} {l : List Nat} {Q : VK} (kn : Kn S H) (hd : Dp K (off S H) v (nL l)) (few : l.length ≤ 60) (h8 : ∀ n ∈ l, n < 8)
    (q : ∀ u H', Same H H' → Dp K (off S H') u (nL (uq l)) → Q u H') : rSetOf K w [v] H fun x H2 => rSortedSet w [x] H2 Q := by
  obtain ⟨r, xs, rfl, hs, ha⟩ := list_at (ds := l.map nD) hd
  have ex := dpa_ints (ns := l.map fun m : Nat => ((m : Nat) : Int)) (by rw [← nD_map]; exact ha)
  subst ex
  refine ⟨r, l.map fun m : Nat => ((m : Nat) : Int), rfl, off_sub.seq hs, by rw [List.length_map]; omega, fun p n hp hn => ⟨p, _, n, rfl, upd_same, by rw [List.length_map] at hn; omega, fun ns p2 hr hm hl hp2 => ?_⟩⟩
  have e : ns = (uq l).map fun m : Nat => ((m : Nat) : Int) := rise_eq hr (rise_natZ (uq_rise l)) fun k => by
    rw [hm, decide_eq_true_eq, List.mem_map, List.mem_map]
    constructor
    · rintro ⟨m, h, rfl⟩; exact ⟨m, (uq_mem h8).mpr h, rfl⟩
    · rintro ⟨m, h, rfl⟩; exact ⟨m, (uq_mem h8).mp h, rfl⟩
  subst e
  have s2 := same_new (o := SetO w p (fun j => decide (j ∈ l.map fun m : Nat => ((m : Nat) : Int))) n) hp
  refine q _ _ (s2.trans (same_new hp2)) (dp_newL (kn.same s2) hp2 ?_)
  rw [nD_map]; exact ints_dpa _
theorem eqvAll_nums : ∀ a b : List Nat, PyData.eqvAll (a.map nD) (b.map nD) = decide (a = b)
  | [], [] => by rw [List.map_nil, PyData.eqvAll]; rfl
  | [], b :: bs => by rw [List.map_nil, List.map_cons, PyData.eqvAll]; rfl
  | a :: as, [] => by rw [List.map_nil, List.map_cons, PyData.eqvAll]; rfl
  | a :: as, b :: bs => by
    rw [List.map_cons, List.map_cons, PyData.eqvAll, eqvAll_nums as bs]
    have e : PyData.eqv (nD a) (nD b) = decide (a = b) := by
      unfold nD; rw [PyData.eqv]
      by_cases h : a = b
      · rw [h, decide_eq_true rfl]; simp
      · rw [decide_eq_false h]; exact beq_eq_false_iff_ne.mpr (by omega)
    rw [e]
    by_cases h : a = b
    · subst h; simp
    · simp [h]
theorem eqv_nums (a b : List Nat) : PyData.eqv (nL a) (nL b) = decide (a = b) := by
  unfold nL; rw [PyData.eqv]; exact eqvAll_nums a b
theorem ne_nums {K : PySem.W.Frag} {S : Addr → Prop} {H : Hp} {u v : V} {l m : List Nat} {Q : VK} (h1 : Dp K (off S H) u (nL l)) (h2 : Dp K (off S H) v (nL m)) (q : Q (.bl (!decide (l = m))) H) : rNeD K u v H Q := by
  refine ⟨_, _, dp_same off_sub _ _ h1, dp_same off_sub _ _ h2, shd_shaped (shd_nL _), shd_shaped (shd_nL _), ?_⟩
  rw [eqv_nums]; exact q
/-- what is read, without a change -/
def Rdn (te : TE) (σ : L2.St) (H : Hp) (n : Nat) : Prop := ∀ Q : VK, Q (.int (n : Nat)) H → te σ H Q
theorem rd_var {i n : Nat} {σ : L2.St} {H : Hp} (h : σ[i]? = some (some (.int (n : Nat)))) : Rdn (tVar i) σ H n := fun Q q => t_var h q
theorem rd_at {K : PySem.W.Frag} {S : Addr → Prop} {σ : L2.St} {H : Hp} {k : Nat} {vR : V} {R : List (List Nat)} {ti tj : TE} {i j : Nat} (tb : Tb R) (hv : σ[k]? = some (some vR)) (dR : Dp K (off S H) vR (nLL R)) (ri : Rdn ti σ H i) (rj : Rdn tj σ H j) (hi : i < R.length) (hj : j < R.length) : Rdn (tOp (rIx K) (tOp (rIx K) (tVar k) ti) tj) σ H (at_ R i j) := fun Q q =>
  t_op (t_op (t_var hv (ri _ (ix_d (i := i) off_sub dR rfl (row_get tb nL hi) fun u du => rj _ (ix_d (i := j) off_sub du rfl (num_get tb hi hj) fun z dz => by cases dz; exact q)))))
theorem rg_ok {n : Nat} (h : n ≤ 1000) : RgOk 0 ((n : Nat) : Int) := .of_le (by decide) (by omega) (by decide) (by omega)
theorem rg_val (n : Nat) : rgV 0 ((n : Nat) : Int) = ivs (List.range n) := by
  unfold rgV
  rw [Int.sub_zero, Int.toNat_natCast]
  exact List.map_congr_left fun m _ => by rw [Int.zero_add]
theorem rng_get {n i m : Nat} (h : (List.range n)[i]? = some m) : m = i ∧ i < n := by
  have hi := (List.getElem?_eq_some_iff.mp h).1
  rw [List.length_range] at hi
  rw [List.getElem?_range hi] at h
  exact ⟨(Option.some.inj h).symm, hi⟩
section
variable {P : Program} {w : World} {K : PySem.W.Frag} {mg : Str → Option Value} {base : Heap} {a : Nat → Addr} {fd : Nat → FuncData} {C : Addr} {tk : Nat → Tok}
def spResult (K : PySem.W.Frag) (C : Addr) : Sp := fun vs H Q _ => ∃ (S : Addr → Prop) (R : List (List Nat)) (x : Addr) (d : PyData) (v : V), vs = [.ref x, v] ∧ Kn S H ∧ TabAt K C (off S H) R x ∧ Tb R ∧ Dp K (off S H) v d ∧ meltOk R.length d = true ∧ mdp d < 20 ∧ msz d ≤ 10000 ∧ ∀ H', Same H H' → Q (.int (res R d : Nat)) H'
theorem meltOk_A {m : Nat} {d : PyData} (h : meltOk m d = true) : meltA m d = true := by
  unfold meltOk at h
  exact (Bool.and_eq_true_iff.mp h).1
theorem ok_result (T : Txt K mg a fd C tk) (U : TxC K mg a C) : FnOk P w K mg base CX0 27 (a 15) (fd 15) ["table", "melt"] (spResult K C) := by
  have G_is_melt := ok_is_melt (P := P) (w := w) (base := base) T U
  have G_result_of := ok_result_of (P := P) (w := w) (base := base) T U 20
  refine T.F_result.ok sc_result (fun vs H Q E h => by obtain ⟨_, _, _, _, _, rfl, _⟩ := h; rfl) (fun cdv A outer s H vs Q E hr h => ?_)
  obtain ⟨S, R, x, d, v, rfl, kn, ht, tb, hd, ok, dp, sz, q⟩ := h
  refine ⟨_, (pss_cons (ps_if (pt_not (pt_val (pe_call G_is_melt (hr.mono (by omega)) (by rfl) T.m_is_melt T.F_is_melt.kp T.b_is_melt .nil pass0 (pa_cons (pv 0) (pa_cons (pv 1) pa_nil)))))
        (pss_one ps_never) pss_nil)
      (pss_one (ps_ret (pe_call G_result_of (hr.mono (by omega)) (by rfl) T.m_result_of T.F_result_of.kp T.b_result_of .nil pass0 (pa_cons (pv 0) (pa_cons (pv 1) pa_nil)))))), ?_⟩
  refine s_seq (s_if (b_not (b_val (t_call2 (t_var rfl (t_var rfl ⟨S, R, x, d, v, rfl, kn, ht, tb, hd, sz, fun H1 s1 => ⟨_, rfl, ifF (by rw [ok]; rfl) (s_next ?_)⟩⟩))))))
  exact s_ret (t_call2 (t_var rfl (t_var rfl ⟨S, R, x, d, v, rfl, kn.same s1, ht.same (off_same s1), tb, dp_same (off_same s1) _ _ hd, meltOk_A ok, dp, fun H2 s2 => q _ (s1.trans s2)⟩)))
/-- whether two melts part a table -/
def partsB (R : List (List Nat)) (a b : PyData) : Bool := meltOk R.length a && meltOk R.length b && decide (uq (vals a) = uq (vals b)) && !decide (res R a = res R b)
def isPartD (R : List (List Nat)) : PyData → Bool
  | .tuple [a, b] => partsB R a b
  | _ => false
theorem isPart_pair (R : List (List Nat)) (a b : PyData) : isPartD R (.tuple [a, b]) = partsB R a b := rfl
theorem isPart_one {R : List (List Nat)} {d : PyData} (h : isPair d = false) : isPartD R d = false := by
  unfold isPartD
  split
  · cases h
  · rfl
theorem vals_ok {m : Nat} {d : PyData} (h : meltOk m d = true) (h7 : m ≤ 7) : (∀ n ∈ vals d, n < 8) ∧ (vals d).length ≤ 40 := by
  have h' := h
  unfold meltOk at h'
  rw [Bool.and_eq_true] at h'
  have l := of_decide_eq_true h'.2
  unfold meltA at h'
  refine ⟨fun n hn => ?_, by unfold vals; rw [List.length_map]; exact l⟩
  have := (all_below h'.1).2 n hn
  omega
def spIsPart (K : PySem.W.Frag) (C : Addr) : Sp := fun vs H Q _ => ∃ (S : Addr → Prop) (R : List (List Nat)) (x : Addr) (d : PyData) (v : V), vs = [.ref x, v] ∧ Kn S H ∧ TabAt K C (off S H) R x ∧ Tb R ∧ Dp K (off S H) v d ∧ mdp d ≤ 20 ∧ msz d ≤ 10000 ∧ ∀ H', Same H H' → Q (.bl (isPartD R d)) H'
end
end K31

set_option maxRecDepth 100000
set_option maxHeartbeats 1000000
/-! {x!r} of an own object in an f-string -/
namespace PySem.W
open PySem PySem.Spec PyProof.Rows
section
variable {prog : Program} {w : World} {A : Around} {E : Value → Shared → Prop} {s : Shared} {K : Frag} {h₀ : Heap} {L C x f : Addr} {m : Str → Option Value} {ox : Obj} {od : Option Obj}
theorem reprObj_K {Q : Value → Shared → Prop} (hu : A.units < cLine) (F : Fr h₀ L s.heap m) (X₀ : K.In h₀) (I : InstAt s.heap x ox C od) (hs : findIn K (.ref C) "__repr__" = some (some (.ref f))) (hf : isFn K (.ref f) = true)
    (h : wpAny (model prog w) A (call (.ref f) [.ref x]) (StrBack Q) E s) : wpAny (model prog w) A (pyReprObj (.ref x)) Q E s := by
  unfold pyReprObj
  refine wpAny_bind (wpAny_cRoomFor hu ?_)
  refine wpAny_bind (wpAny_bind (I.type.here ((looks_findIn (X₀.keeps F.keep) hs).here ?_)))
  show wpAny _ _ (if (some (Value.ref f)).isNone = true then _ else _) _ _ _
  rw [if_neg (by simp)]
  refine wpAny_bind (m := callSpecialIfBound? (.ref x) (Str.ofString "__repr__") _) (ifBound_K (X₀.keeps F.keep) I hs hf (wpAny_mono h (fun r s' hr => ?_) fun _ _ y => y))
  cases r <;> first | exact hr.elim | skip
  refine wpAny_bind (wpAny_isInstance (typeIs_str _ _ _) isSubtype_str_str ?_)
  first
    | exact wpAny_pure hr
    | (rw [if_pos rfl]; exact wpAny_pure hr)
end
end PySem.W
namespace Kh
open PySem PySem.Spec PyProof.Rows L2
section
variable {X : Cx} {k : Nat} {f C : Addr} {sp : Sp}
def tFmtI (C : Addr) (sp : Sp) (te : TE) : TE := fun σ H Q => te σ H fun x H1 => isI H1 C x ∧ sp [x] H1 (fun v H' => ∃ y : Str, v = .str y ∧ y.length ≤ sizeLine ∧ Q (.str y) H') E0
theorem pe_fmtI {e : Expr} {te : TE} {pos : Pos} (R : Runs X k f sp) (hr : Room (k + 1) X.A) (M : Meth X.K C "__repr__" f) (he : PE X e te) : PE X (.FormattedValue e 114 none pos) (tFmtI C sp te) := by
  refine ⟨fun pins s σ H Q I h => ?_⟩
  refine wpAny_FormattedValue_repr (thn (he.run pins s σ H _ I h) fun u s1 hv => ?_)
  obtain ⟨x, H1, I1, ru, ⟨a, dx, fs, rfl, ha⟩, hs⟩ := hv
  cases ru
  obtain ⟨mA, J, _⟩ := ins_get I1.hok ha
  obtain ⟨od, J, _⟩ := J.look
  obtain ⟨m, hF⟩ := I1.fr
  refine PySem.W.reprObj_K hr.units0 hF I1.ok.mod.kin J M.at_ M.fn (wpAny_mono (R X.A pins σ H1 s1 [.ref a] [.ref a] _ X.xe rfl rfl (hr.mono (Nat.le_succ _)) I1 (.cons rfl .nil) hs) (fun r s' q => ?_) fun _ _ z => z)
  obtain ⟨v, H', I', rv, n, rfl, hz, q⟩ := q
  obtain ⟨tk, rfl⟩ := rv
  exact wpAny_formatField_str ⟨.str n, H', I', ⟨_, rfl⟩, q⟩ ⟨.str n, H', I'.tok _, ⟨_, rfl⟩, q⟩ hz
end
end Kh

set_option maxRecDepth 100000
set_option maxHeartbeats 4000000
namespace K31
open PySem PySem.Spec PyProof.Rows L2 Kh
theorem nice_row {ms : List Nat} (h : ∀ n ∈ ms, n < 256) (hl : ms.length ≤ 8) : Nice 808 1 (nL ms) := by
  have q := nice_list (niceA_map (f := nD) (g := fun _ => 100) (m := 0) ms fun n hn => nice_int (h n hn))
  have e : ∀ l : List Nat, (l.map fun _ => 100 + 1).sum = 101 * l.length := by
    intro l
    induction l with
    | nil => rfl
    | cons x l ih => rw [List.map_cons, List.sum_cons, ih, List.length_cons]; omega
  rw [e] at q
  exact q.mono (by omega) (Nat.le_refl _)
theorem nice_rows {R : List (List Nat)} (tb : Tb R) : Nice 6000 2 (nLL R) := by
  have few := tb.few
  have q := nice_list (niceA_map (f := nL) (g := fun _ => 808) (m := 1) R fun m hm => nice_row (fun n hn => by have := tb.num m hm n hn; omega) (by have := tb.row m hm; omega))
  have e : ∀ l : List (List Nat), (l.map fun _ => 808 + 1).sum = 809 * l.length := by
    intro l
    induction l with
    | nil => rfl
    | cons x l ih => rw [List.map_cons, List.sum_cons, ih, List.length_cons]; omega
  rw [e] at q
  exact q.mono (by omega) (Nat.le_refl _)
/-- the text of a table -/
def rText (R : List (List Nat)) : Str := ("Table(" : Str) ++ (nLL R).shown ++ (")" : Str)
theorem rText_len {R : List (List Nat)} (tb : Tb R) : (rText R).length ≤ 100000 := by
  have h := PyData.shown_le 8 (by decide) (nLL R) (nice_rows tb).sh
  have h2 := (nice_rows tb).wt
  unfold rText
  rw [strLen_append, strLen_append]
  have e1 : ("Table(" : Str).length = 6 := by decide
  have e2 : (")" : Str).length = 1 := by decide
  rw [e1, e2]; omega
section
variable {P : Program} {w : World} {K : PySem.W.Frag} {mg : Str → Option Value} {base : Heap} {a : Nat → Addr} {fd : Nat → FuncData} {C : Addr} {tk : Nat → Tok}
def spReprT (K : PySem.W.Frag) (C : Addr) : Sp := fun vs H Q _ => ∃ (S : Addr → Prop) (R : List (List Nat)) (x : Addr), vs = [.ref x] ∧ Kn S H ∧ TabAt K C (off S H) R x ∧ Tb R ∧ ∀ H', Same H H' → Q (.str (rText R)) H'
theorem ok_Table_repr (T : Txt K mg a fd C tk) (U : TxC K mg a C) : FnG P w K mg base 10 (a 10) (fd 10) ["self"] (spReprT K C) := by
  have G_Table_rows := ok_Table_rows (P := P) (w := w) (base := base) T U
  refine fun_okG T.F_Table_repr sc_Table_repr (fun vs H Q E h => by obtain ⟨_, _, _, rfl, _⟩ := h; rfl) (fun cdv A outer s H vs Q E hg hr h => ?_)
  obtain ⟨S, R, x, rfl, kn, ht, tb, q⟩ := h
  refine ⟨_, (pss_one (ps_ret (pe_joined (.cons pe_str (.cons (pe_fmtD hg hr.units (pe_meth0 (pv 0) U.cls U.me_rows G_Table_rows (hr.mono (by omega)) T.b_Table_rows .nil pass0)) (.cons pe_str .nil)))))), ?_⟩
  obtain ⟨dx, v0, hx0, _⟩ := id ht
  have hx := (off_some hx0).2
  have tl := rText_len tb
  have e0 : (Str.empty ++ ("Table(" : Str)) = ("Table(" : Str) := by decide +kernel
  unfold rText at tl
  refine s_ret (t_c ⟨_, rfl, (by decide), ?_⟩)
  refine t_meth0 (t_var rfl ⟨x, dx, _, rfl, hx, rfl, S, R, x, (), [], rfl, kn, ht, tb, .nil, trivial, fun u H1 s1 du => ?_⟩)
  replace du : Dp K (off S H1) u (nLL R) := du
  refine ⟨nLL R, ⟨dp_same off_sub _ _ du, ⟨_, _, nice_rows tb, by decide, by decide⟩, .inr ⟨_, rfl⟩⟩, _, rfl, ?_, ?_⟩
  · rw [e0]
    simp only [strLen_append] at tl ⊢
    exact Nat.le_trans (show _ ≤ 100000 by omega) (by decide)
  · refine t_c ⟨_, rfl, ?_, ?_⟩
    · rw [e0]; exact Nat.le_trans tl (by decide)
    · rw [e0]; exact q H1 s1
end
end K31

set_option maxRecDepth 100000
set_option maxHeartbeats 2000000
/-! x != y of two lists whose items have an own == -/
namespace GQ
open PySem PySem.SeqAt
open AutoSeq1 (wpAny_loadPart')
open MeetsSeq MeetsSeq2 MeetsSeq3 SeqRoads2
section
variable {prog : Program} {w : World} {A : Around} {R : Result → Shared → Prop}
theorem kh_neLoop (l b : Addr) (N : Nat) (J : Nat → Shared → Prop) (hJ : ListI prog w A (fun e s' => R (.error e) s') l b N J) (fin : ∀ s, J N s → R (.ok (.ret (.bool false))) s) (k : Nat) :
    ∀ i : Nat, N - i = k → i ≤ N → ∀ s, J i s → wpAny (model prog w) A.in1 (Builtin.«list.__eq__.loop» ⟨[.ref l, .ref b, rawInt i, rawInt 3], []⟩) (FinOf prog w A R) (fun e s' => R (.error e) s') s := by
  induction k with
  | zero =>
    intro i hk hi s h
    obtain ⟨us, vs, n, m, gl, gb, zu, zv, _⟩ := hJ _ _ h
    have ei : i = N := by omega
    have last : R (.ok (.ret (.bool false))) s := fin s (ei ▸ h)
    obtain ⟨hp, g, d, tk, os⟩ := s
    wp_walk using wpAny_loadPart' gl, wpAny_loadPart' gb
    have n1 : us[((i : Nat) : Int).toNat]? = none := by simp; omega
    have n2 : vs[((i : Nat) : Int).toNat]? = none := by simp; omega
    rw [n1, n2]
    wp_walk using wpAny_loadPart' gl, wpAny_loadPart' gb
    show R (.ok (.ret (.bool (us.size != vs.size)))) _
    rw [zu, zv]
    simpa using last
  | succ k ih =>
    intro i hk hi s h
    obtain ⟨us, vs, n, m, gl, gb, zu, zv, turn⟩ := hJ _ _ h
    have c1 : i < us.size := by omega
    have c2 : i < vs.size := by omega
    have here := turn c1 c2
    obtain ⟨hp, g, d, tk, os⟩ := s
    wp_walk using wpAny_loadPart' gl, wpAny_loadPart' gb
    have n1 : us[((i : Nat) : Int).toNat]? = some us[i] := by simp [c1]
    have n2 : vs[((i : Nat) : Int).toNat]? = some vs[i] := by simp [c2]
    have up : ((i : Int) + 1) = ((i + 1 : Nat) : Int) := by omega
    rw [n1, n2]
    refine wpAny_bind (wpAny_mono here (fun r s2 h2 => ?_) fun _ _ x => x)
    obtain ⟨er, h2⟩ := h2
    subst er
    have next := ih (i + 1) (by omega) (by omega) s2 h2
    obtain ⟨hp2, g2, d2, tk2, os2⟩ := s2
    wp_walk
    rw [up]
    exact ⟨plainId_quiet plain_eq_loop _, codeAny_builtin entry_eq_loop (by rw [Around.under_plainId plain_eq_loop _]; exact next)⟩
theorem kh_listNe (l b : Addr) (N : Nat) (J : Nat → Shared → Prop) (hJ : ListI prog w A (fun e s' => R (.error e) s') l b N J) (fin : ∀ s, J N s → R (.ok (.ret (.bool false))) s) {s : Shared} (h : J 0 s) :
    wpAny (model prog w) A.in1 (Builtin.«list.__ne__» ⟨[.ref l, .ref b], []⟩) (FinOf prog w A R) (fun e s' => R (.error e) s') s := by
  obtain ⟨us, vs, n, m, gl, gb, zu, zv, _⟩ := hJ _ _ h
  have next := kh_neLoop (A := A) (R := R) l b N J hJ fin _ 0 rfl (Nat.zero_le _) s h
  obtain ⟨hp, g, d, tk, os⟩ := s
  have f3 := AutoSeq1.sub_list_list
  have hne : ¬ (us.size != vs.size) = true := by simp [zu, zv]
  wp_walk using wpAny_loadPart' gl, wpAny_loadPart' gb
  exact ⟨plainId_quiet plain_eq_loop _, codeAny_builtin entry_eq_loop (by rw [Around.under_plainId plain_eq_loop _]; exact next)⟩
end
section
variable {prog : Program} {w : World} {A : Around} {E : Value → Shared → Prop} {s : Shared}
theorem kh_rcNe {l b : Addr} {N : Nat} {Q : Value → Shared → Prop} (hu : A.units < cLine) (J : Nat → Shared → Prop) (hJ : ListI prog w A E l b N J) (fin : ∀ s, J N s → Q (.bool false) s) (h : J 0 s) : wpAny (model prog w) A (richCompare .NotEq (.ref l) (.ref b)) Q E s := by
  obtain ⟨us, vs, n, m, gl, gb, _, _, _⟩ := hJ _ _ h
  refine wpAny_richCompare_same_room (op := .NotEq) ⟨_, gl, rfl⟩ ⟨_, gb, rfl⟩ F.slot_list_ne (call_here F.slot_list_ne ⟨_, gl, rfl⟩ F.entry_list_ne (F.args_list_ne_2 _ _) ?_) hu
  exact kh_listNe (R := wants (fun v s' => v ≠ .notImplemented ∧ Q v s') E) l b N J hJ (fun s' q => ⟨(fun x => nomatch x), fin s' q⟩) h
end
end GQ
namespace Kh
open PySem PySem.Spec PyProof.Rows L2
section
variable {X : Cx} {n : Nat} {D : Eqv}
def rNeGL (D : Eqv) : R2 := fun x y H Q => DList D x y H ∧ ∀ H', Same H H' → Q (.bl false) H'
theorem op_neGL (hD : Mon D) (h : EqG X n D) (hr : Room (n + 1) X.A) : OpR X (compareOp .NotEq) (rNeGL D) := by
  intro pins s σ H x y v u Q I rx ry hq
  obtain ⟨⟨a, b, xs, ys, rfl, rfl, ha, hb, p⟩, q⟩ := hq
  cases rx
  cases ry
  have sb : Sub X (n + 1) X.A := ⟨hr, rfl⟩
  refine GQ.kh_rcNe (N := xs.length) sb.room.units0 (fun _ s' => LoopI X pins σ H s') (fun i s' z => ?_) (fun s' z => ?_) ⟨H, I, Ext.rfl'⟩
  · obtain ⟨H1, I1, e1⟩ := id z
    obtain ⟨_, its, k, r, e⟩ := I1.hok a _ (e1 _ _ ha)
    obtain ⟨_, its2, k2, r2, e2⟩ := I1.hok b _ (e1 _ _ hb)
    exact ⟨its.toArray, its2.toArray, k, k2, e, e2, by rw [List.size_toArray, ← r.length], by rw [List.size_toArray, ← r2.length, ← p.1], fun h1 h2 => turnG hD h sb p r r2 i h1 h2 s' z⟩
  · obtain ⟨H1, I1, e1⟩ := z
    exact ⟨.bl false, H1, I1, rfl, q H1 e1⟩
end
end Kh

set_option maxRecDepth 100000
set_option maxHeartbeats 4000000
/-! several clauses 'except x as n'; errors with one field: made, raised, asked -/
namespace Kh
open PySem PySem.Spec PyProof.Rows L2
/-- behind the suite the name in slot i is gone -/
def dEnd (i : Nat) (D : Ends) : Ends :=
  { nx := fun τ G => D.nx (τ.set i none) G
    rt := D.rt
    bk := fun τ G => D.bk (τ.set i none) G
    ct := fun τ G => D.ct (τ.set i none) G }
/-- what clauses with the name in slot i wish -/
def wCl (K : PySem.W.Frag) (W0 : WX) (D : Ends) (i : Nat) : List (Value × (Addr → Value → Option Addr → TS)) → WX
  | [] => W0
  | q :: r => fun cls d σ H => ∃ b, PySem.W.exmOne K cls q.1 = some b ∧ (b = true → ∀ a, H a = none → q.2 a cls d (dEnd i D) (σ.set i (some (.ref a))) H) ∧ (b = false → wCl K W0 D i r cls d σ H)
inductive Cls' (X : Cx) (n : Str) : List ExceptHandler → List (Value × (Addr → Value → Option Addr → TS)) → Prop
  | none : Cls' X n [] []
  | more {x : Str} {c : Value} {ts : Addr → Value → Option Addr → TS} {b₀ : Stmt} {suite : List Stmt} {p1 p2 : Pos} {r : List ExceptHandler} {l : List (Value × (Addr → Value → Option Addr → TS))} (hc : Names X x c)
      (su : ∀ (a : Addr) (oe : Obj) (cls : Value) (d : Option Addr) (pn : List (Addr × Obj)), Zc cls d oe → (∃ vs, oe.data = .fields vs) → PSs (X.suite a ((a, oe) :: pn)) (b₀ :: suite) (ts a cls d)) (t : Cls' X n r l) :
      Cls' X n (.ExceptHandler (some (.Name x p1)) (some n) (b₀ :: suite) p2 :: r) ((c, ts) :: l)
section
variable {X : Cx} {n : Str} {i : Nat} {body : List Stmt} {hd : ExceptHandler} {hds : List ExceptHandler} {l : List (Value × (Addr → Value → Option Addr → TS))} {pos : Pos} {tb : WX → TS} {W0 : WX}
theorem ps_clauses (st : X.stack = X.env :: X.outer) (fr : X.env.frame = some X.env.locals) (nd : X.N.Nodup) (hi : X.N[i]? = some n) (kn : X.env.kindOf n = some .local) (tk : Takes X W0)
    (hb : ∀ (W : WX) (pn : List (Addr × Obj)) (xe : Value → Shared → Prop), Takes (X.tr pn xe) W → PassesOwn (model X.prog X.w) X.A X.env xe → PSs (X.tr pn xe) body (tb W))
    (hc : Cls' X n (hd :: hds) l) : PS X (.Try body (hd :: hds) [] [] pos) (fun D σ H => tb (wCl X.K W0 D i l) D σ H) := by
  refine ⟨fun pins z σ H D I h => ?_⟩
  have ok := I.ok
  have fA : X.A.frames = some (X.env :: X.outer) := ok.frames.trans (by rw [st])
  refine wpAny_Try_except ?_
  let M := model X.prog X.w
  refine wpAny_mono ((hb (wCl X.K W0 D i l) (X.pn ++ pins) (fun e z1 => wpAny M X.A (noteFrame e X.env) (fun _ z2 => wpAny M X.A (setFlight e none) (fun _ z3 => wpAny M X.A (handleBy e X.env (hd :: hds)) (SP X pins D) X.xe z3) X.xe z2) X.xe z1)
    (fun u z' xx => ?_) PassesOwn.looking).run [] z σ H D (I.toTry _) h) (fun f z1 hs => ?_) (fun _ _ he => he)
  · obtain ⟨a, B, zI, pins', τ, G, cls, d, rfl, J1, nb, up, sky, na, os, ag, w⟩ := xx
    have J : Inv X pins τ G zI := J1.ofTry ok
    rw [show (X.tr (X.pn ++ pins) _).stack = X.env :: X.outer from st] at sky
    show wpAny _ X.A (noteFrame (.ref a) X.env) _ _ _
    refine Sky.land Zc.steady fA fr sky fun g1 fl1 up1 => ?_
    have up2 := up.trans up1
    have J2 : Inv X pins τ G { z' with heap := g1 } := J.landed nb fl1.1 up2 os ag
    obtain ⟨o1, v1, ha1, hz1, hd1⟩ := fl1.there
    have out : a ∉ frs (X.env :: X.outer) := fun hm => by
      obtain ⟨_, o', e', no⟩ := fl1.2.2.1.mem hm
      rw [ha1] at e'
      cases e'
      exact no _ hd1
    have nL : a ≠ X.env.locals := fun e => out (List.mem_filterMap.mpr ⟨X.env, List.mem_cons_self, by rw [fr, e]⟩)
    have nF : a ∉ X.fs := fun hm => by
      obtain ⟨v, hv, q⟩ := List.mem_filterMap.mp hm
      exact out (List.mem_filterMap.mpr ⟨v, List.mem_cons_of_mem _ hv, q⟩)
    have S1 := J2.suite ha1 hd1 na nL nF
    suffices go : ∀ (r : List ExceptHandler) (l' : List (Value × (Addr → Value → Option Addr → TS))), Cls' X n r l' → wCl X.K W0 D i l' cls d τ G → wpAny M X.A (handleBy (.ref a) X.env r) (SP X pins D) X.xe { z' with heap := g1 } from go _ _ hc w
    intro r l' hk
    induction hk with
    | none =>
      intro w0
      obtain ⟨_, _, _, o2, v2, T, oT, ts2, h2, hz2, hd2, e2, _⟩ := id fl1
      have fin : wpAny M X.A (setFlight (.ref a) X.env.frame) (fun _ z4 => wpAny M X.A (throw (.ref a) : Sem Flow) (SP X pins D) X.xe z4) X.xe { z' with heap := g1 } := by
        rw [fr]
        exact HandSPX.setFlight_upZ fl1 fun g2 held up3 => wpAny_throw (tk _ _ ⟨a, B, zI, pins, τ, G, cls, d, rfl, J, nb, up2.trans up3, .inr (.inr (by rw [st]; exact held)), na, os, ag, w0⟩)
      refine wpAny_handleBy_nil ?_
      unfold PySem.passOn
      refine wpAny_bind (wpAny_field h2 hd2 e2 ?_)
      rw [if_neg (by simp : ¬ ((Value.ref T == Value.none) = true))]
      first
        | exact wpAny_bind (wpAny_pure (wpAny_bind fin))
        | exact wpAny_bind fin
    | @more x c ts b₀ suite p1 p2 r' l2 hn su t ih =>
      rintro ⟨b, eb, yes, no⟩
      refine wpAny_handleBy_cons (codeAny_handlers_test ?_) (fun q => nomatch q)
      have ty : PySem.W.Looks M g1 (typeOf (.ref a)) cls := fun A Q E s k q => wpAny_typeOf_ref (k _ _ ha1) (by rw [hz1.1]; exact q)
      have ask := PySem.W.exm_one (M := M) J2.kIn ty eb
      have name : ∀ {Q E : Value → Shared → Prop}, Q c { z' with heap := g1 } → wpAny M (X.A.mark (some (.ref a))) (eval (.Name x p1) X.env) Q E { z' with heap := g1 } := fun {Q E} q => by
        rcases hn with ⟨gl, db, m | ⟨m, bb, nn⟩⟩
        · exact ld_glob (X := X.suite a ((a, o1) :: (X.pn ++ pins))) S1 gl m q db
        · exact ld_blt (X := X.suite a ((a, o1) :: (X.pn ++ pins))) S1 gl m bb q nn db
      refine name (ask.here ?_)
      cases b with
      | false => exact ih (no rfl)
      | true =>
        refine codeAny_handlers_suite_as (HandSPX.lands_againZ fl1 fun g2 fl2 up3 => ?_)
        have J3 : Inv X pins τ G { z' with heap := g2 } := J.landed nb fl2.1 (up2.trans up3) os ag
        obtain ⟨o2, v2, ha2, hz2, hd2⟩ := fl2.there
        refine store_ok (X := X.suite a ((a, o2) :: (X.pn ++ pins))) (v := .ref a) (J3.suite ha2 hd2 na nL nF) nd hi (.inl kn) rfl (fun z5 S5 => ?_) (.inr kn)
        refine wpAny_mono ((su a o2 cls d (X.pn ++ pins) hz2 ⟨_, hd2⟩).run [] z5 _ G _ S5 (yes rfl a na)) (fun f z6 hs => ?_) (fun _ _ q => q.elim)
        have gone : ∀ {ρ : L2.St} {G6 : Hp} {Q : Shared → Prop}, Inv (X.suite a ((a, o2) :: (X.pn ++ pins))) [] ρ G6 z6 → (∀ z7, Inv X pins (ρ.set i none) G6 z7 → Q z7) → wpAny M X.A (do bindName X.env n .none; unbindBehindTheSuite X.env n p2) (fun _ z7 => Q z7) X.xe z6 :=
          fun {ρ G6 Q} S6 q => gone_ok (S6.unsuite ok) nd hi kn q
        cases f with
        | ret u =>
          obtain ⟨y, ρ, G6, S6, ry, q⟩ := hs
          exact gone S6 fun z7 J7 => ⟨_, _, _, J7, ry, q⟩
        | next =>
          obtain ⟨ρ, G6, S6, q⟩ := hs
          exact gone S6 fun z7 J7 => ⟨_, _, J7, q⟩
        | brk =>
          obtain ⟨ρ, G6, S6, q⟩ := hs
          exact gone S6 fun z7 J7 => ⟨_, _, J7, q⟩
        | cont =>
          obtain ⟨ρ, G6, S6, q⟩ := hs
          exact gone S6 fun z7 J7 => ⟨_, _, J7, q⟩
  · cases f with
    | ret u =>
      obtain ⟨y, ρ, G6, J6, ry, q⟩ := hs
      exact ⟨y, ρ, G6, J6.ofTry ok, ry, q⟩
    | next =>
      obtain ⟨ρ, G6, J6, q⟩ := hs
      exact wpAny_execs_nil ⟨ρ, G6, J6.ofTry ok, q⟩
    | brk =>
      obtain ⟨ρ, G6, J6, q⟩ := hs
      exact ⟨ρ, G6, J6.ofTry ok, q⟩
    | cont =>
      obtain ⟨ρ, G6, J6, q⟩ := hs
      exact ⟨ρ, G6, J6.ofTry ok, q⟩
end
/-! ### errors with one field -/
/-- __init__ of an error: self.f = f -/
def spEr (C : Addr) (f : Str) : Sp := fun vs H Q _ => ∃ (a : Addr) (v : V), vs = [.ref a, v] ∧ H a = some (exo a C none) ∧ ∀ d, H d = none → d ≠ a → Q .non (upd (upd H d (exd d [(f, v)])) a (exo a C (some d)))
/-- C: an error's class, named x, with the field f; its __init__ at fI -/
structure ErC (K : PySem.W.Frag) (mg : Str → Option Value) (x f : Str) (C fI : Addr) : Prop where
  nm : mg x = some (.ref C)
  ox : OexC K C
  xf : XfC K C
  no : PySem.W.findIn K (.ref C) f = some none
  iC : PySem.W.findIn K (.ref C) "__init__" = some (some (.ref fI))
  tI : PySem.W.typeIn K (.ref fI) = some (.type "function")
  ca : PySem.W.findIn K (.ref C) "__class__" = some (some (.builtin "object.__class__"))
  cn : PySem.W.specialIn K (.builtin "object.__class__") "__get__" = some (some (.builtin "getset_descriptor.__get__"))
  ct : PySem.W.takesIn K (.builtin "object.__class__") = some true
  cm : PySem.W.mroIn K C (.type "object") = some true
  cc : (PySem.W.clsIn K C).isSome = true
section
variable {X : Cx} {x f : Str} {C fI : Addr} {fd : FuncData} {e : Expr} {ta : TA} {p pos : Pos}
/-- x(e), an error -/
theorem pmk_er {k : Nat} (c : ErC X.K X.mg x f C fI) (F : FnOk X.prog X.w X.K X.mg X.base CX0 k fI fd ["self", f] (spEr C f)) (hb : Binds X.K fd ["self", f] []) (hr : Room (k + 1) X.A) (hg : Gl X x) (ha : PA X [e] ta)
    (hdb : (x == ("__debug__" : Str)) = false := by decide) (he : starEach (e :: []) X.env = (false, eval e X.env) :: starEach [] X.env := by rfl) (hpl : (backTo pos (starEach [] X.env)).any (·.1) = false := by rfl) :
    PMk X (.Call (.Name x p) [e] [] pos) (tMkO C (spEr C f) [] ta) := pmk_oex (dvs := []) c.ox c.iC c.tI F hr hb .nil pass0 hg c.nm ha hdb he hpl
theorem er_mk {H1 : Hp} {Q : XK} {v : V} (q : ∀ d H', H1 d = none → Same H1 H' → H' d = some (.xd [(f, v)]) → Q (.ref C) (some d) H') :
    [v].length ≤ 1000 ∧ ∀ a, H1 a = none → spEr C f (.ref a :: ([v] ++ [])) (upd H1 a (exo a C none)) (fun u H2 => u = .non ∧ ∃ (d : Addr) (fs : List (Str × V)), H2 a = some (exo a C (some d)) ∧ H2 d = some (exd d fs) ∧ H1 d = none ∧ Q (.ref C) (some d) (upd (del H2 a) d (.xd fs))) (fun _ _ _ => False) := by
  refine ⟨(show 1 ≤ 1000 by decide), fun a na => ⟨a, v, rfl, upd_same, fun d nd ne => ⟨rfl, d, [(f, v)], upd_same, ?_, ?_, ?_⟩⟩⟩
  · rw [upd_ne ne, upd_same]
  · rw [upd_ne ne] at nd; exact nd
  · have nd' : H1 d = none := by rw [upd_ne ne] at nd; exact nd
    refine q d _ nd' (fun b o hb => ?_) upd_same
    have h1 : b ≠ d := ne_of_none hb nd'
    have h2 : b ≠ a := ne_of_none hb na
    rw [upd_ne h1, del_ne h2, upd_ne h2, upd_ne h1, upd_ne h2]
    exact hb
theorem t_er {sp : Sp} {dvs : List V} {te : TE} {σ : L2.St} {H : Hp} {Q : XK} (h : te σ H fun v H1 => [v].length ≤ 1000 ∧ ∀ a, H1 a = none → sp (.ref a :: ([v] ++ dvs)) (upd H1 a (exo a C none)) (fun u H2 => u = .non ∧ ∃ (d : Addr) (fs : List (Str × V)), H2 a = some (exo a C (some d)) ∧ H2 d = some (exd d fs) ∧ H1 d = none ∧ Q (.ref C) (some d) (upd (del H2 a) d (.xd fs))) (fun _ _ _ => False)) :
    tMkO C sp dvs (tCons te tNil) σ H Q := h
/-- isinstance(e, c) of the error that the suite holds -/
def rIsEr (K : PySem.W.Frag) (C a : Addr) : List V → Hp → VK → Prop := fun xs H Q => ∃ (c : V) (cv : Value) (b : Bool), xs = [.ref a, c] ∧ (∀ u, RelV c u → u = cv) ∧ PySem.W.kitOne K (.ref C) cv = some b ∧ Q (.bl b) H
theorem call_isEr {a : Addr} {oe : Obj} {cls : Value} {d : Option Addr} {pn : List (Addr × Obj)} (c : ErC X.K X.mg x f C fI) (hz : Zc cls d oe) (hf : ∃ vs, oe.data = .fields vs) :
    CallR (X.suite a ((a, oe) :: pn)) (.builtin "isinstance") (fun xs H Q => cls = .ref C ∧ (∃ dd fs, d = some dd ∧ H dd = some (.xd fs)) ∧ rIsEr X.K C a xs H Q) := by
  intro pins s σ H xs us Q I r h
  obtain ⟨rfl, ⟨dd, fs, rfl, hdd⟩, ct, cv, b, rfl, hcv, e, q⟩ := h
  cases r with
  | cons rx rr =>
    cases rr with
    | cons rt rr =>
      cases rr
      cases rx
      obtain rfl := hcv _ rt
      obtain ⟨hget, _⟩ := I.pin (a, oe) (List.mem_append.mpr (.inl List.mem_cons_self))
      obtain ⟨vs, hv⟩ := hf
      obtain ⟨mA, hns, _⟩ := (show ObjOk X.prog X.w H s.heap dd (.xd fs) from I.hok dd _ hdd)
      obtain ⟨od, ho, _⟩ := lookIn_ns hns
      have J : PySem.W.InstAt s.heap a oe C (some od) := ⟨hget, hz.1, by unfold PySem.W.notCls; rw [hv] <;> rfl, by rw [hz.2]; exact ho⟩
      exact PySem.W.kia_one (PySem.W.kitx_exc c.cc c.xf.ga c.xf.gg c.xf.exC c.ca c.cn c.ct c.cm) I.kIn J e (fun z => nomatch z) fun tk => ⟨.bl b, H, I.kept (t' := tk) fun _ _ z => z, rfl, q⟩
end
end Kh

set_option maxRecDepth 100000
set_option maxHeartbeats 2000000
/-! repr of any plain data -/
namespace Kh
open PySem PySem.Spec PyProof.Rows L2
/-- what repr can tell, of any kind -/
def TellsA (K : PySem.W.Frag) (H : Hp) (v : V) (d : PyData) : Prop := Dp K H v d ∧ ((∃ i, d = .int i ∧ i.natAbs.log2 < 1920) ∨ ∃ n m, Nice n m d ∧ n ≤ 1000000 ∧ m ≤ 60)
def rReprA (K : PySem.W.Frag) : List V → Hp → VK → Prop := fun vs H Q => ∃ v d, vs = [v] ∧ TellsA K H v d ∧ Q (.str d.shown) H
theorem cr_reprA {X : Cx} (hg : X.A.guards = some []) (hu : X.A.units + 64 < cLine) : CallR X (.builtin "repr") (rReprA X.K) := by
  intro pins s σ H vs us Q I r h
  obtain ⟨v, d, rfl, ⟨hd, kind⟩, q⟩ := h
  rcases kind with ⟨i, rfl, hz⟩ | ⟨n, m, hn, hn1, hm1⟩
  · obtain ⟨u, rfl, ru⟩ := r.one
    cases hd
    obtain ⟨t, rfl⟩ := ru
    rw [PyData.shown] at q
    exact PySem.P.repr_of_int hz ⟨.str (toString i), H, I.tok _, ⟨_, rfl⟩, q⟩
  · cases d with
    | int i => exact cr_reprD hg hu pins s σ H [v] us Q I r ⟨v, _, rfl, ⟨hd, ⟨n, m, hn, hn1, hm1⟩, .inl ⟨_, rfl⟩⟩, q⟩
    | list ds => exact cr_reprD hg hu pins s σ H [v] us Q I r ⟨v, _, rfl, ⟨hd, ⟨n, m, hn, hn1, hm1⟩, .inr ⟨ds, rfl⟩⟩, q⟩
    | tuple ds => exact cr_reprD hg hu pins s σ H [v] us Q I r ⟨v, _, rfl, ⟨hd, ⟨n, m, hn, hn1, hm1⟩, .inr ⟨ds, rfl⟩⟩, q⟩
    | dict _ => cases hd
    | none =>
      obtain ⟨u, rfl, ru⟩ := r.one
      cases hd
      obtain rfl : u = Value.none := ru
      rw [PyData.shown] at q
      exact PySem.P.repr_of_none ⟨.str "None", H, I.tok _, ⟨_, rfl⟩, q⟩
    | bool b =>
      obtain ⟨u, rfl, ru⟩ := r.one
      cases hd
      obtain rfl : u = Value.bool b := ru
      rw [PyData.shown] at q
      exact PySem.P.repr_of_bool ⟨.str (if b then "True" else "False"), H, I.tok _, ⟨_, rfl⟩, q⟩
    | str x =>
      obtain ⟨u, rfl, ru⟩ := r.one
      cases hd
      obtain ⟨t, rfl⟩ := ru
      have hs := hn.fits hn1
      rw [PyData.shown] at q hs
      exact PySem.P.repr_of_str ⟨.str (reprText x), H, I.tok _, ⟨_, rfl⟩, q⟩ hs
theorem k_reprA {X : Cx} {K : PySem.W.Frag} (hg : X.A.guards = some []) (hu : X.A.units + 64 < cLine) (h : X.K = K := by rfl) : CallR X (.builtin "repr") (rReprA K) := by subst h; exact cr_reprA hg hu
end Kh

set_option maxRecDepth 100000
set_option maxHeartbeats 2000000
/-! lambdas handed to a def that hears what they do -/
namespace Kh
open PySem PySem.Spec PyProof.Rows L2
open LamX (ExtN Tabs TabS TabB CodeO)
/-! all but tables -/
open Classical in
noncomputable def nt (H : Hp) : Hp := fun a => if ∃ ps, H a = some (.tbl ps) then none else H a
theorem nt_some {H : Hp} {a : Addr} {o : HO} (h : nt H a = some o) : H a = some o ∧ ∀ ps, o ≠ .tbl ps := by
  unfold nt at h
  split at h
  · cases h
  · rename_i n
    exact ⟨h, fun ps e => n ⟨ps, by rw [h, e]⟩⟩
theorem nt_of {H : Hp} {a : Addr} {o : HO} (h : H a = some o) (n : ∀ ps, o ≠ .tbl ps) : nt H a = some o := by
  unfold nt
  rw [if_neg]
  · exact h
  · rintro ⟨ps, e⟩
    rw [h] at e
    exact n ps (Option.some.inj e)
theorem sq_nt {K : PySem.W.Frag} {H : Hp} {a : Addr} {xs : List V} (h : SqL K H a xs) : SqL K (nt H) a xs := by
  rcases h with (h | ⟨o, h⟩) | h
  · exact .inl (.inl (nt_of h fun _ z => nomatch z))
  · exact .inl (.inr ⟨o, nt_of h fun _ z => nomatch z⟩)
  · exact .inr h
theorem st_nt {K : PySem.W.Frag} {H : Hp} {a : Addr} {xs : List V} (h : SqT K H a xs) : SqT K (nt H) a xs := by
  rcases h with (h | ⟨o, h⟩) | h
  · exact .inl (.inl (nt_of h fun _ z => nomatch z))
  · exact .inl (.inr ⟨o, nt_of h fun _ z => nomatch z⟩)
  · exact .inr h
mutual
theorem dp_nt {K : PySem.W.Frag} {H : Hp} : ∀ (d : PyData) (v : V), Dp K H v d → Dp K (nt H) v d
  | .none, _, h => by cases h; exact .non
  | .bool b, _, h => by cases h; exact .bl b
  | .int i, _, h => by cases h; exact .int i
  | .str x, _, h => by cases h; exact .str x
  | .list ds, _, h => by
    cases h with
    | lst hs ha => exact .lst (sq_nt hs) (dpa_nt ds _ ha)
  | .tuple ds, _, h => by
    cases h with
    | tup hs ha => exact .tup (st_nt hs) (dpa_nt ds _ ha)
  | .dict _, _, h => by cases h
theorem dpa_nt {K : PySem.W.Frag} {H : Hp} : ∀ (ds : List PyData) (vs : List V), DpAll K H vs ds → DpAll K (nt H) vs ds
  | [], _, h => by cases h; exact .nil
  | d :: ds, _, h => by
    cases h with
    | cons h1 h2 => exact .cons (dp_nt d _ h1) (dpa_nt ds _ h2)
end
/-- all that is read stays, but tables -/
def Kp (S : Addr → Prop) (H H' : Hp) : Prop := Same (nt (off S H)) (off S H')
theorem Kp.same {S : Addr → Prop} {H H' : Hp} (e : Same H H') : Kp S H H' := fun b o h => off_same e b o (nt_some h).1
theorem Kp.refl {S : Addr → Prop} {H : Hp} : Kp S H H := .same (Same.refl _)
theorem Kp.ofOff {S : Addr → Prop} {H H' : Hp} (e : Same (off S H) (off S H')) : Kp S H H' := fun b o h => e b o (nt_some h).1
theorem Kp.trans {S : Addr → Prop} {H H1 H2 : Hp} (a : Kp S H H1) (b : Kp S H1 H2) : Kp S H H2 := fun c o h => b c o (nt_of (a c o h) (nt_some h).2)
theorem Kp.ext {S : Addr → Prop} {H H' : Hp} (e : ExtN H H') : Kp S H H' := fun b o h => by
  obtain ⟨h1, h2⟩ := nt_some h
  obtain ⟨n, h3⟩ := off_some h1
  rw [off_out n]
  exact e b o h3 h2
theorem Kp.dp {K : PySem.W.Frag} {S : Addr → Prop} {H H' : Hp} (e : Kp S H H') {v : V} {d : PyData} (h : Dp K (off S H) v d) : Dp K (off S H') v d := dp_same e d v (dp_nt d v h)
theorem Kp.dpa {K : PySem.W.Frag} {S : Addr → Prop} {H H' : Hp} (e : Kp S H H') {vs : List V} {ds : List PyData} (h : DpAll K (off S H) vs ds) : DpAll K (off S H') vs ds := dpa_same e ds vs (dpa_nt ds vs h)
theorem ext_of {H H' : Hp} (e : Same H H') : ExtN H H' := ExtN.of e
/-- the tables stand; S are tables and things known -/
structure Wd (T : List (Addr × Str)) (S : Addr → Prop) (H : Hp) : Prop where
  tab : Tabs T H
  kt : ∀ b, S b → (∃ q ∈ T, q.1 = b) ∨ ∃ o, H b = some o ∧ ∀ ps, o ≠ .tbl ps
theorem Wd.kn {T : List (Addr × Str)} {S : Addr → Prop} {H : Hp} (w : Wd T S H) : Kn S H := fun b hb => by
  rcases w.kt b hb with ⟨q, hq, rfl⟩ | ⟨o, h, _⟩
  · obtain ⟨ps, h, _⟩ := w.tab q hq
    exact some_ne h
  · exact some_ne h
theorem Wd.ext {T : List (Addr × Str)} {S : Addr → Prop} {H H' : Hp} (w : Wd T S H) (e : ExtN H H') (t : Tabs T H') : Wd T S H' := ⟨t, fun b hb => (w.kt b hb).imp id fun ⟨o, h, n⟩ => ⟨o, e b o h n, n⟩⟩
theorem Wd.same {T : List (Addr × Str)} {S : Addr → Prop} {H H' : Hp} (w : Wd T S H) (e : Same H H') : Wd T S H' := w.ext (ExtN.of e) (w.tab.ext e)
theorem Wd.new {T : List (Addr × Str)} {S : Addr → Prop} {H : Hp} (w : Wd T S H) {p : Addr} {o : HO} (h : H p = none) : Wd T S (upd H p o) := w.same (same_new h)
/-- what is read in G is in G', but tables -/
def Mv (G G' : Hp) : Prop := Same (nt G) G'
theorem Mv.dp {K : PySem.W.Frag} {G G' : Hp} (e : Mv G G') {v : V} {d : PyData} (h : Dp K G v d) : Dp K G' v d := dp_same e d v (dp_nt d v h)
theorem Mv.dpa {K : PySem.W.Frag} {G G' : Hp} (e : Mv G G') {vs : List V} {ds : List PyData} (h : DpAll K G vs ds) : DpAll K G' vs ds := dpa_same e ds vs (dpa_nt ds vs h)
theorem Mv.trans {G G1 G2 : Hp} (a : Mv G G1) (b : Mv G1 G2) : Mv G G2 := fun c o h => b c o (nt_of (a c o h) (nt_some h).2)
theorem Mv.same {G G' : Hp} (e : Same G G') : Mv G G' := fun b o h => e b o (nt_some h).1
/-- p is new behind H -/
theorem mv_new {S : Addr → Prop} {H H1 H' : Hp} {p : Addr} (e : ExtN H H1) (hp : H1 p = none) (e2 : ExtN H H') : Mv (off S H) (off (plus S p) H') := fun b o h => by
  obtain ⟨h1, h2⟩ := nt_some h
  obtain ⟨n, h3⟩ := off_some h1
  rw [off_out]
  · exact e2 b o h3 h2
  · rintro (z | rfl)
    · exact n z
    · have := e b o h3 h2
      rw [hp] at this; cases this
theorem ext_mut {H H1 H' : Hp} {p : Addr} {o : HO} (e : ExtN H H1) (hp : H1 p = none) (e2 : ExtN H H') : ExtN H (upd H' p o) := fun b u h n => by
  rw [upd_ne]
  · exact e2 b u h n
  · rintro rfl
    have := e b u h n
    rw [hp] at this; cases this
theorem tabs_mut {T : List (Addr × Str)} {H : Hp} {p : Addr} {xs ys : List V} (t : Tabs T H) (h : H p = some (.lst xs)) : Tabs T (upd H p (.lst ys)) := fun q hq => by
  obtain ⟨ps, h1, h2, h3⟩ := t q hq
  refine ⟨ps, ?_, h2, fun pos cv hc => ?_⟩
  · rw [upd_ne]
    · exact h1
    · intro e; rw [e, h] at h1; cases h1
  · obtain ⟨c, e1, e2⟩ := h3 pos cv hc
    refine ⟨c, e1, ?_⟩
    rw [upd_ne]
    · exact e2
    · intro e
      rw [e, h] at e2
      unfold CodeO at e2
      cases e2
theorem Wd.mut {T : List (Addr × Str)} {S : Addr → Prop} {H : Hp} {p : Addr} {xs ys : List V} (w : Wd T S H) (h : H p = some (.lst xs)) : Wd T S (upd H p (.lst ys)) := ⟨tabs_mut w.tab h, fun b hb => by
  by_cases e : b = p
  · subst e; exact .inr ⟨_, upd_same, fun _ z => nomatch z⟩
  · rw [upd_ne e]; exact w.kt b hb⟩
theorem Wd.plus {T : List (Addr × Str)} {S : Addr → Prop} {H : Hp} {p : Addr} {xs : List V} (w : Wd T S H) (h : H p = some (.lst xs)) : Wd T (plus S p) H := ⟨w.tab, fun b hb => by
  rcases hb with hb | rfl
  · exact w.kt b hb
  · exact .inr ⟨_, h, fun _ z => nomatch z⟩⟩
theorem Wd.less {T : List (Addr × Str)} {S S' : Addr → Prop} {H : Hp} (w : Wd T S' H) (h : ∀ b, S b → S' b) : Wd T S H := ⟨w.tab, fun b hb => w.kt b (h b hb)⟩
theorem s_forK {K : PySem.W.Frag} {S : Addr → Prop} {H : Hp} {σ : L2.St} {t : TE} {g : TG} {tb : TS} {D : Ends} {ds : List PyData} (kn : Kn S H)
    (hev : ∀ Q : VK, (∀ u H1, Same H H1 → Dp K (off S H1) u (.list ds) → Q u H1) → t σ H Q)
    (step : ∀ xs H1, Same H H1 → Kn S H1 → DpAll K (off S H1) xs ds → xs.length = ds.length → ∃ Pv : Nat → L2.St → Hp → Prop, Pv 0 σ H1 ∧ (∀ i σ' H', i ≤ ds.length → Pv i σ' H' → Kp S H1 H') ∧
      (∀ i x d σ' H', ds[i]? = some d → Dp K (off S H1) x d → Pv i σ' H' → g x σ' H' fun σ2 H2 => tb { D with nx := Pv (i + 1), ct := Pv (i + 1), bk := D.nx } σ2 H2) ∧ (∀ σ' H', Pv ds.length σ' H' → D.nx σ' H')) :
    tFor (fun σ H R => iList K t σ H R ∨ iTup K t σ H R) g tb D σ H := by
  refine .inl (hev _ fun u H1 s1 du => ?_)
  obtain ⟨a, xs, rfl, hs, ha⟩ := list_at du
  have ln := dpa_len ha
  obtain ⟨Pv, h0, hG, hst, hd⟩ := step xs H1 s1 (kn.same s1) ha ln
  refine ⟨a, rfl, ⟨xs, off_sub.seq hs⟩, for_it (walk_list (K := K) (a := a) (xs := xs)) Pv h0 (fun i σ' H' hi p => off_sub.seq ((hG i σ' H' (by omega) p).seq (sq_nt hs))) (fun i x σ' H2 H3 hi p y => ?_) (fun σ' H' p => hd σ' H' (by rw [← ln]; exact p))⟩
  obtain ⟨rfl, xi⟩ := y
  obtain ⟨d, di, dx⟩ := dpa_at ha xi
  exact hst i x d σ' H3 di dx p
/-! a def whose body knows its code -/
section
variable {P : Program} {w : World} {K : PySem.W.Frag} {mg : Str → Option Value} {base : Heap}
theorem fun_okC {x qual : Str} {st : Stmt} {f : Addr} {fd : FuncData} {N ps : List Str} {k : Nat} {sp : Sp} (F : Fun K x qual st f fd) (S : FnScope N ps (defScope st)) (len : ∀ vs H Q E, sp vs H Q E → vs.length = ps.length)
    (hbody : ∀ (A : Around) (outer : List Env) (s : Shared) (H : Hp) (vs : List V) (Q : VK) (E : XK), (A.deeper (envOfC qual (defScope st) s.heap.objs.size f fd.code)).guards = some [] → Room k (A.deeper (envOfC qual (defScope st) s.heap.objs.size f fd.code)) → sp vs H Q E →
      ∃ t, PSs (cxOf CX0 P w K mg base N qual (defScope st) f fd.code A outer s H E).nox (defBody st) t ∧ t { nx := fun _ H' => Q .non H', rt := Q } (start N vs) H) : FnG P w K mg base (k + 1) f fd ps sp := by
  obtain ⟨oc, od, kV, doc, pm, an, cdv, ct, osl, rfl, lk, hcd⟩ := F.ex
  refine ⟨len, fun A outer s H args us vs Q E hg hr z0 hb r hsp => LamX.run_ofS lk hcd S hr z0 hb r (len _ _ _ _ hsp) fun hr2 => ?_⟩
  obtain ⟨t, ht, hq⟩ := hbody A outer s H vs Q E hg hr2 hsp
  exact ⟨t, ht.nox, hq⟩
end
end Kh

set_option maxRecDepth 100000
set_option maxHeartbeats 4000000
namespace K31
open PySem PySem.Spec PyProof.Rows L2 Kh
open LamX (ExtN Tabs TabS TabB CodeO GivesTo)
/-- the errors' texts -/
abbrev InvalidTable_init_s : Stmt := inClass (top 7) 0
abbrev InvalidValue_init_s : Stmt := inClass (top 8) 0
abbrev InvalidMelt_init_s : Stmt := inClass (top 9) 0
theorem sc_InvalidTable_init : FnScope ["self", "position"] ["self", "position"] (defScope InvalidTable_init_s) := ⟨rfl, rfl, rfl, by decide +kernel, rfl, by decide +kernel, by decide +kernel⟩
theorem sc_InvalidValue_init : FnScope ["self", "value"] ["self", "value"] (defScope InvalidValue_init_s) := ⟨rfl, rfl, rfl, by decide +kernel, rfl, by decide +kernel, by decide +kernel⟩
theorem sc_InvalidMelt_init : FnScope ["self", "value"] ["self", "value"] (defScope InvalidMelt_init_s) := ⟨rfl, rfl, rfl, by decide +kernel, rfl, by decide +kernel, by decide +kernel⟩
/-- the errors: of a table, a value, a melt -/
structure TxR (K : PySem.W.Frag) (mg : Str → Option Value) (a : Nat → Addr) (fd : Nat → FuncData) (CS CT CV CM : Addr) : Prop where
  F_t : Fun K "__init__" "InvalidTable.__init__" InvalidTable_init_s (a 33) (fd 33)
  b_t : Binds K (fd 33) ["self", "position"] []
  t : ErC K mg "InvalidTable" "position" CT (a 33)
  F_v : Fun K "__init__" "InvalidValue.__init__" InvalidValue_init_s (a 34) (fd 34)
  b_v : Binds K (fd 34) ["self", "value"] []
  v : ErC K mg "InvalidValue" "value" CV (a 34)
  F_m : Fun K "__init__" "InvalidMelt.__init__" InvalidMelt_init_s (a 35) (fd 35)
  b_m : Binds K (fd 35) ["self", "value"] []
  m : ErC K mg "InvalidMelt" "value" CM (a 35)
  s : mg "ShelfError" = some (.ref CS)
  kt : PySem.W.kitOne K (.ref CT) (.ref CS) = some true
  kv : PySem.W.kitOne K (.ref CV) (.ref CS) = some true
  km : PySem.W.kitOne K (.ref CM) (.ref CS) = some true
  tt : PySem.W.exmOne K (.ref CT) (.ref CT) = some true
  vt : PySem.W.exmOne K (.ref CV) (.ref CT) = some false
  vm : PySem.W.exmOne K (.ref CV) (.ref CM) = some false
  vv : PySem.W.exmOne K (.ref CV) (.ref CV) = some true
  mt : PySem.W.exmOne K (.ref CM) (.ref CT) = some false
  mm : PySem.W.exmOne K (.ref CM) (.ref CM) = some true
section
variable {P : Program} {w : World} {K : PySem.W.Frag} {mg : Str → Option Value} {base : Heap} {a : Nat → Addr} {fd : Nat → FuncData} {C : Addr} {tk : Nat → Tok} {CS CT CV CM : Addr}
theorem ok_er {qual : Str} {st : Stmt} {f : Str} {i : Nat} {E : Addr} (F : Fun K "__init__" qual st (a i) (fd i)) (S : FnScope ["self", f] ["self", f] (defScope st)) (hT : OexC K E) (hn : PySem.W.findIn K (.ref E) f = some none) {p1 p2 p3 p4 : Pos}
    (hb : defBody st = [.Assign [.Attribute (.Name "self" p1) f p2] (.Name f p3) p4]) (hf : (f == ("__debug__" : Str)) = false) (hf2 : (f == ("__classdict__" : Str)) = false) (hv : Vis (defScope st) "self") (hv2 : Vis (defScope st) f) : FnOk P w K mg base CX0 1 (a i) (fd i) ["self", f] (spEr E f) := by
  refine F.ok S (fun vs H Q E h => by obtain ⟨_, _, rfl, _⟩ := h; rfl) (fun cdv A outer s H vs Q E2 hr h => ?_)
  obtain ⟨x, v, rfl, hx, q⟩ := h
  rw [hb]
  refine ⟨_, pss_one (ps_ost (pe_var (i := 0) rfl hv) (pe_var (i := 1) rfl hv2 hf hf2)), ?_⟩
  exact t_var rfl (t_var rfl ⟨x, E, rfl, hT, hn, .inl ⟨hx, fun dx nd ne => q dx nd ne⟩⟩)
theorem ok_er_t (R : TxR K mg a fd CS CT CV CM) : FnOk P w K mg base CX0 1 (a 33) (fd 33) ["self", "position"] (spEr CT "position") := ok_er R.F_t sc_InvalidTable_init R.t.ox R.t.no rfl (by decide) (by decide) (.inl (by decide +kernel)) (.inl (by decide +kernel))
theorem ok_er_v (R : TxR K mg a fd CS CT CV CM) : FnOk P w K mg base CX0 1 (a 34) (fd 34) ["self", "value"] (spEr CV "value") := ok_er R.F_v sc_InvalidValue_init R.v.ox R.v.no rfl (by decide) (by decide) (.inl (by decide +kernel)) (.inl (by decide +kernel))
theorem ok_er_m (R : TxR K mg a fd CS CT CV CM) : FnOk P w K mg base CX0 1 (a 35) (fd 35) ["self", "value"] (spEr CM "value") := ok_er R.F_m sc_InvalidMelt_init R.m.ox R.m.no rfl (by decide) (by decide) (.inl (by decide +kernel)) (.inl (by decide +kernel))
end
/-- an error that is heard: its class, its field, the word that is told -/
def Heard (K : PySem.W.Frag) (cs : List (Addr × Str × Str)) (Q : VK) : XK := fun cls d H' => ∃ c ∈ cs, cls = .ref c.1 ∧ ∃ dd v x, d = some dd ∧ H' dd = some (.xd [(c.2.1, v)]) ∧ TellsA K H' v x ∧ ∀ q, H' q = none → Q (.ref q) (upd H' q (.lst [.str c.2.2, .str x.shown, .bl true]))
/-- what a def that hears makes of a lambda's reading; cs: the errors' classes, fields and words -/
def tHear (K : PySem.W.Frag) (cs : List (Addr × Str × Str)) : (XK → Hp → VK → Prop) → Hp → VK → Prop := fun tl H Q => ∀ p, H p = none → ∀ (Ec : XK) (Qc : VK), (∀ cls d H', Heard K cs Q cls d H' → Ec cls d H') → (∀ v H', Q (.ref p) H' → Qc v H') → tl Ec (upd H p (.lst [.str "let"])) Qc
abbrev hcs (CT CV CM : Addr) : List (Addr × Str × Str) := [(CT, "position", "table"), (CM, "value", "melt"), (CV, "value", "value")]
theorem takes_len {X : Cx} {W : WX} (t : Takes X W) : Takes X (fun c d σ H => σ.length = X.N.length → W c d σ H) := fun u s' ⟨a, B, sI, pins, σ, H, cls, d, e, I, nb, up, sky, na, os, ag, q⟩ =>
  t u s' ⟨a, B, sI, pins, σ, H, cls, d, e, I, nb, up, sky, na, os, ag, q (by simpa using I.len)⟩
/-- the suite of a clause -/
abbrev tSu (K : PySem.W.Frag) (CS E : Addr) (f wd : Str) (ea : Addr) (cls : Value) (d : Option Addr) : TS :=
  tAsg (tLst (tCons (tC (.str wd)) (tCons (tCB (rReprA K) (tCons (tXf ea cls d E f (tVar 2)) tNil)) (tCons (tCB (fun xs H Q => cls = .ref E ∧ (∃ dd fs, d = some dd ∧ H dd = some (.xd fs)) ∧ rIsEr K E ea xs H Q) (tCons (tVar 2) (tCons (tC (.ref CS)) tNil))) tNil)))) (gName 1)
theorem hear_gives {a : Nat → Addr} {fd : Nat → FuncData} {C : Addr} {tk : Nat → Tok} {CS CT CV CM : Addr} {X : Cx} {q : Str} {cdg : Value} (T : Txt X.K X.mg a fd C tk) (R : TxR X.K X.mg a fd CS CT CV CM) (hg : X.A.guards = some []) (hu : ∀ v : Env, (X.A.deeper v).units + 64 < cLine) :
    GivesTo X _law_heard_N "_law_heard" (defScope _law_heard_s) (a 25) cdg (defBody _law_heard_s) "_law_call" q (tHear X.K (hcs CT CV CM)) := by
  intro f c' s H Q tl act hc h
  let Y : Cx := (cxOf CX0 X.prog X.w X.K X.mg X.base _law_heard_N "_law_heard" (defScope _law_heard_s) (a 25) cdg X.A X.stack s H E0).nox
  have gY : ∀ (z : Option Value), (Y.A.mark z).guards = some [] := fun z => hg
  have uY : ∀ (z : Option Value), (Y.A.mark z).units + 64 < cLine := fun z => hu Y.env
  refine ⟨_, pss_cons (ps_set (i := 1) sc__law_heard.nd rfl (Or.inl rfl) (pe_lst (pa_cons pe_str pa_nil)))
      (pss_cons (ps_clauses (X := Y) (i := 2) (n := "e") (W0 := fun _ _ _ _ => False) (tb := fun W D σ H => ∃ Ech : XK, (∀ cls d σ' H', Ech cls d H' → σ'.length = 3 → W cls d σ' H') ∧ σ[0]? = some (some (.ref f)) ∧ H c' = some (CodeO c' q) ∧ tl Ech H (fun _ H' => D.nx σ H'))
        rfl rfl sc__law_heard.nd rfl rfl takes_none5 (fun W pn xe tk _ => ?_)
        (.more ⟨by rfl, by decide, .inl R.t.nm⟩ (fun ea oe cls d pn hz hf => pss_one (ps_set (i := 1) sc__law_heard.nd rfl (Or.inl rfl) (pe_lst (pa_cons pe_str (pa_cons (pe_callB (k_reprA (gY _) (uY _)) (by rfl) T.z_repr (by decide +kernel) (pa_cons (pe_xf R.t.xf R.t.no hz hf (pv 2)) pa_nil)) (pa_cons (pe_callB (call_isEr R.t hz hf) (by rfl) T.z_isinstance (by decide +kernel) (pa_cons (pv 2) (pa_cons (pe_glob (v := .ref _) (by rfl) R.s rfl) pa_nil))) pa_nil))))))
        (.more ⟨by rfl, by decide, .inl R.m.nm⟩ (fun ea oe cls d pn hz hf => pss_one (ps_set (i := 1) sc__law_heard.nd rfl (Or.inl rfl) (pe_lst (pa_cons pe_str (pa_cons (pe_callB (k_reprA (gY _) (uY _)) (by rfl) T.z_repr (by decide +kernel) (pa_cons (pe_xf R.m.xf R.m.no hz hf (pv 2)) pa_nil)) (pa_cons (pe_callB (call_isEr R.m hz hf) (by rfl) T.z_isinstance (by decide +kernel) (pa_cons (pv 2) (pa_cons (pe_glob (v := .ref _) (by rfl) R.s rfl) pa_nil))) pa_nil))))))
        (.more ⟨by rfl, by decide, .inl R.v.nm⟩ (fun ea oe cls d pn hz hf => pss_one (ps_set (i := 1) sc__law_heard.nd rfl (Or.inl rfl) (pe_lst (pa_cons pe_str (pa_cons (pe_callB (k_reprA (gY _) (uY _)) (by rfl) T.z_repr (by decide +kernel) (pa_cons (pe_xf R.v.xf R.v.no hz hf (pv 2)) pa_nil)) (pa_cons (pe_callB (call_isEr R.v hz hf) (by rfl) T.z_isinstance (by decide +kernel) (pa_cons (pv 2) (pa_cons (pe_glob (v := .ref _) (by rfl) R.s rfl) pa_nil))) pa_nil)))))) .none))))
      (pss_one (ps_ret (pv 1)))), ?_⟩
  · refine ⟨fun pins s' σ H' D I h' => ?_⟩
    obtain ⟨Ech, hW, h1, h2, h3⟩ := h'
    exact (pss_one (ps_expr (act (fun c d σ H => σ.length = 3 → W c d σ H) pn xe Ech _ _ (takes_len tk) hW))).run pins s' σ H' D I ⟨h1, h2, h3⟩
  · refine s_seq (s_set (t_lst (a_cons (t_c (a_nil ⟨le1, fun p hp => nx_of ?_⟩)))))
    refine s_seq ⟨fun cls d H' => ∀ σ' : L2.St, σ'.length = 3 → wCl X.K (fun _ _ _ _ => False) _ 2 _ cls d σ' H', fun cls d σ' H' h1 h2 => h1 σ' h2, rfl, ?_, h p hp _ _ (fun cls d H' hh σ' hl => ?_) (fun v H' hq => ?_)⟩
    · rw [upd_ne (ne_of_none hc hp)]; exact hc
    · obtain ⟨x0, x1, x2, rfl⟩ : ∃ x0 x1 x2, σ' = [x0, x1, x2] := by
        match σ', hl with
        | [x0, x1, x2], _ => exact ⟨_, _, _, rfl⟩
      obtain ⟨c, hcm, rfl, dd, v, x, rfl, hd, tl, hq⟩ := hh
      have su : ∀ (D' : Ends) (ea : Addr) (f wd : Str) (E : Addr), H' dd = some (.xd [(f, v)]) → PySem.W.kitOne X.K (.ref E) (.ref CS) = some true → (∀ q, H' q = none → D'.nx ([x0, some (.ref q), some (.ref ea)]) (upd H' q (.lst [.str wd, .str x.shown, .bl true]))) →
          tSu X.K CS E f wd ea (.ref E) (some dd) D' [x0, x1, some (.ref ea)] H' := fun D' ea f wd E hd hk hq => by
        refine s_set (t_lst (a_cons (t_c (a_cons (t_cb1 (t_var rfl ⟨rfl, rfl, dd, _, v, rfl, hd, by simp [List.lookup], v, x, rfl, tl, a_cons ?_⟩))))))
        exact t_cb (a_cons (t_var rfl (a_cons (t_c (a_nil ⟨rfl, ⟨dd, _, rfl, hd⟩, .ref CS, .ref CS, true, rfl, fun u r => r, hk, a_nil ⟨(show 3 ≤ sizeLine by decide), fun q hq0 => hq q hq0⟩⟩)))))
      have rest : ∀ q, H' q = none → ∀ ea : Addr, Q (.ref q) (upd H' q (.lst [.str c.2.2, .str x.shown, .bl true])) := fun q h _ => hq q h
      simp only [hcs, List.mem_cons, List.not_mem_nil, or_false] at hcm
      rcases hcm with rfl | rfl | rfl
      · refine ⟨true, R.tt, fun _ ea ha => su _ ea _ _ CT hd R.kt fun q hq0 => s_ret (t_var rfl (hq q hq0)), fun z => nomatch z⟩
      · refine ⟨false, R.mt, fun z => (nomatch z), fun _ => ⟨true, R.mm, fun _ ea ha => su _ ea _ _ CM hd R.km fun q hq0 => s_ret (t_var rfl (hq q hq0)), fun z => nomatch z⟩⟩
      · refine ⟨false, R.vt, fun z => (nomatch z), fun _ => ⟨false, R.vm, fun z => (nomatch z), fun _ => ⟨true, R.vv, fun _ ea ha => su _ ea _ _ CV hd R.kv fun q hq0 => s_ret (t_var rfl (hq q hq0)), fun z => nomatch z⟩⟩⟩
    · exact s_ret (t_var rfl hq)
end K31

set_option maxRecDepth 100000
set_option maxHeartbeats 4000000
namespace K31
open PySem PySem.Spec PyProof.Rows L2 Kh
open LamX (ExtN Tabs TabS TabB CodeO GivesTo LamS lamEnv lamCx)
section
variable {a : Nat → Addr} {fd : Nat → FuncData} {C : Addr} {tk : Nat → Tok} {CS CT CV CM : Addr} {X : Cx}
/-- _law_heard(lambda: body) -/
theorem pe_heard {c P : Addr} {k : Nat} {Tb : List (Addr × Str)} {params : Arguments} {body : Expr} {scope : Scope} {t : XK → TE} {p lpos pos : Pos} (T : Txt X.K X.mg a fd C tk) (R : TxR X.K X.mg a fd CS CT CV CM) (gd : X.A.guards = some []) (TB : TabB X.base X.mg c P) (hcode : X.env.code = .ref c)
    (hmT : (P, X.env.qual ++ "<lambda>") ∈ Tb) (hu : ∀ p ∈ Tb, p.1 = P → p.2 = X.env.qual ++ "<lambda>") (hr : Room (k + 2) X.A) (L : LamS X.env.scope scope)
    (hbody : ∀ (A : Around) (outer : List Env) (s : Shared) (H : Hp) (E : XK) (f c' : Addr), Room k (A.deeper (lamEnv X scope s.heap.objs.size f c')) → PE (lamCx X A outer s H E scope f c') body (t E))
    (hg : Gl X "_law_heard" := by rfl) (hdef : defaultsOf params X.env = ([], []) := by rfl) (hbind : ∀ (q : Str) (cl : List (Str × Addr)) (pm cv ctv : Value), bindArgs (PySem.W.kla_fn "<lambda>" q params body scope cl pm cv ctv) ⟨[], []⟩ = pure [] := by intros; rfl) :
    PE X (.Call (.Name "_law_heard" p) [.Lambda params body scope lpos] [] pos) (LamX.tLam Tb (tHear X.K (hcs CT CV CM)) t) := by
  obtain ⟨oc, od, kV, doc, pm, an, cdv, ct, osl, e, lk, hcd⟩ := T.F__law_heard.ex
  rw [e] at lk
  have hb := T.b__law_heard
  rw [e] at hb
  exact LamX.pe_lamcall hg T.m__law_heard T.F__law_heard.kp lk hcd hb sc__law_heard rfl (.inl (by decide +kernel)) (hear_gives T R gd fun v => (hr.deeper v).units) TB hcode hmT hu hr L hdef hbind hbody
end
section
variable {K : PySem.W.Frag} {Tb : List (Addr × Str)} {S : Addr → Prop} {H : Hp} {σ : L2.St} {Q : VK} {t : XK → TE} {CT CV CM : Addr}
/-- what repr can tell, of any kind -/
def Tls (d : PyData) : Prop := (∃ i, d = .int i ∧ i.natAbs.log2 < 1920) ∨ ∃ n m, Nice n m d ∧ n ≤ 1000000 ∧ m ≤ 60
/-- the lambda raises -/
theorem hd_err {E : Addr} {f wd : Str} {x : PyData} (w : Wd Tb S H) (hc : (E, f, wd) ∈ hcs CT CV CM) (tl : Tls x)
    (body : ∀ H1 Ec Qc, Kp S H H1 → Wd Tb S H1 → (∀ dd v H', Same H1 H' → H' dd = some (.xd [(f, v)]) → Dp K (off S H') v x → Ec (.ref E) (some dd) H') → t Ec σ H1 Qc)
    (q : ∀ u H', ExtN H H' → Tabs Tb H' → Dp K (off S H') u (.list [.str wd, .str x.shown, .bool true]) → Q u H') : LamX.tLam Tb (tHear K (hcs CT CV CM)) t σ H Q := by
  refine ⟨w.tab, fun H1 e1 t1 p hp Ec Qc hE _ => ?_⟩
  have w1 := (w.ext e1 t1).same (same_new (o := HO.lst [V.str "let"]) hp)
  refine body _ Ec Qc ((Kp.ext e1).trans (.same (same_new hp))) w1 fun dd v H' s hd dv => hE _ _ _ ⟨(E, f, wd), hc, rfl, dd, v, x, rfl, hd, ⟨dp_same off_sub _ _ dv, tl⟩, fun q' hq' => ?_⟩
  have w2 := w1.same s
  refine q _ _ (((e1.trans (ExtN.of (same_new hp))).trans (ExtN.of s)).trans (ExtN.of (same_new hq'))) ((w2.same (same_new hq')).tab) ?_
  exact dp_newL w2.kn hq' (.cons (.str _) (.cons (.str _) (.cons (.bl _) .nil)))
/-- the lambda ends with a value -/
theorem hd_let (w : Wd Tb S H) (body : ∀ H1 Ec Qc, Kp S H H1 → Wd Tb S H1 → (∀ v H', Same H1 H' → Qc v H') → t Ec σ H1 Qc)
    (q : ∀ u H', ExtN H H' → Tabs Tb H' → Dp K (off S H') u (.list [.str "let"]) → Q u H') : LamX.tLam Tb (tHear K (hcs CT CV CM)) t σ H Q := by
  refine ⟨w.tab, fun H1 e1 t1 p hp Ec Qc _ hQ => ?_⟩
  have w0 := w.ext e1 t1
  have w1 := w0.same (same_new (o := HO.lst [V.str "let"]) hp)
  refine body _ Ec Qc ((Kp.ext e1).trans (.same (same_new hp))) w1 fun v H' s => hQ v H' (q _ _ ((e1.trans (ExtN.of (same_new hp))).trans (ExtN.of s)) (w1.same s).tab ?_)
  exact dp_same (off_same s) _ _ (dp_newL w0.kn hp (.cons (.str _) .nil))
theorem TabAt.kp {C : Addr} {R : List (List Nat)} {x : Addr} {H H' : Hp} (e : Kp S H H') (h : TabAt K C (off S H) R x) : TabAt K C (off S H') R x := by
  obtain ⟨dx, v, h0, h1⟩ := h
  exact ⟨dx, v, e _ _ (nt_of h0 fun _ z => nomatch z), e.dp h1⟩
end
/-- things: data, or an empty dict -/
inductive Th where
  | dat (d : PyData)
  | dic
def ThAt (K : PySem.W.Frag) (H : Hp) (v : V) : Th → Prop
  | .dat d => Dp K H v d
  | .dic => ∃ a, v = .ref a ∧ H a = some (.dK [])
theorem ThAt.same {K : PySem.W.Frag} {H H' : Hp} {v : V} (e : Same H H') : ∀ {th : Th}, ThAt K H v th → ThAt K H' v th
  | .dat d, h => dp_same e _ _ h
  | .dic, ⟨a, e1, e2⟩ => ⟨a, e1, e _ _ e2⟩
theorem ThAt.kp {K : PySem.W.Frag} {S : Addr → Prop} {H H' : Hp} {v : V} (e : Kp S H H') : ∀ {th : Th}, ThAt K (off S H) v th → ThAt K (off S H') v th
  | .dat d, h => e.dp h
  | .dic, ⟨a, e1, e2⟩ => ⟨a, e1, e _ _ (nt_of e2 fun _ z => nomatch z)⟩
/-- a list or a tuple of things -/
def ThL (K : PySem.W.Frag) (H : Hp) (v : V) (ths : List Th) : Prop := ∃ a xs, v = .ref a ∧ (SqL K H a xs ∨ SqT K H a xs) ∧ xs.length = ths.length ∧ ∀ (i : Nat) y th, xs[i]? = some y → ths[i]? = some th → ThAt K H y th
theorem ThL.same {K : PySem.W.Frag} {H H' : Hp} {v : V} {ths : List Th} (e : Same H H') (h : ThL K H v ths) : ThL K H' v ths := by
  obtain ⟨a, xs, rfl, hs, l, t⟩ := h
  exact ⟨a, xs, rfl, hs.imp e.seq (same_t e), l, fun i y th h1 h2 => (t i y th h1 h2).same e⟩
theorem ThL.kp {K : PySem.W.Frag} {S : Addr → Prop} {H H' : Hp} {v : V} {ths : List Th} (e : Kp S H H') (h : ThL K (off S H) v ths) : ThL K (off S H') v ths := by
  obtain ⟨a, xs, rfl, hs, l, t⟩ := h
  exact ⟨a, xs, rfl, hs.imp (fun z => e.seq (sq_nt z)) (fun z => same_t e (st_nt z)), l, fun i y th h1 h2 => (t i y th h1 h2).kp e⟩
theorem ThL.of {K : PySem.W.Frag} {H : Hp} {v : V} {b : Bool} {ds : List PyData} (h : Dp K H v (sq b ds)) : ThL K H v (ds.map Th.dat) := by
  obtain ⟨a, xs, rfl, hs, ha⟩ := items_at h (items_sq b _)
  refine ⟨a, xs, rfl, hs, by rw [List.length_map, dpa_len ha], fun i y th h1 h2 => ?_⟩
  obtain ⟨d, dj, dy⟩ := dpa_at ha h1
  rw [List.getElem?_map, dj] at h2
  cases h2
  exact dy
def isListT : Th → Bool
  | .dat d => isListD d
  | .dic => false
def itemsT : Th → Option (List PyData)
  | .dat d => items d
  | .dic => none
/-- a row of n -/
def rowT (n : Nat) (th : Th) : Bool := match itemsT th with
  | some ds => decide (ds.length = n) && ds.all (belowD (n : Nat))
  | none => false
theorem items_list {d : PyData} : (items d).isSome = isListD d := by cases d <;> rfl
theorem items_sq' {d : PyData} {ds : List PyData} (h : items d = some ds) : ∃ b, d = sq b ds := by
  cases d with
  | list es => cases h; exact ⟨false, rfl⟩
  | tuple es => cases h; exact ⟨true, rfl⟩
  | _ => cases h
section
variable {P : Program} {w : World} {K : PySem.W.Frag} {mg : Str → Option Value} {base : Heap} {a : Nat → Addr} {fd : Nat → FuncData} {C : Addr} {tk : Nat → Tok}
theorem isi2_dic {H : Hp} {p r : Addr} {n m : String} {b c : Bool} {Q : VK} (h : H r = some (.dK [])) (hp : H p = some (.tup [.ty n, .ty m])) (hk : kitB "dict" n = some b) (hc : kitB "dict" m = some c) (q : Q (.bl (b || c)) H) : rIsiT K [.ref r, .ref p] H Q := by
  refine ⟨.ref r, p, [.ty n, .ty m], .type "dict", [.type n, .type m], b || c, rfl, hp, .cons (.ty n) (.cons (.ty m) .nil), .base (.dK h), ?_, q⟩
  refine kitAny_cons (kit_ty hk) (fun hb => ?_) (fun hb => by rw [hb]; rfl)
  refine kitAny_cons (kit_ty hc) (fun hd => ?_) (fun hd => by rw [hd]; cases b <;> rfl)
  rw [hb, hd]; exact kitAny_nil
theorem isiT_th {S : Addr → Prop} {H : Hp} {v : V} {th : Th} {p : Addr} {Q : VK} (h : ThAt K (off S H) v th) (hp : H p = some (.tup [.ty "list", .ty "tuple"])) (q : Q (.bl (isListT th)) H) : rIsiT K [v, .ref p] H Q := by
  cases th with
  | dat d => exact isi2_d off_sub h hp (kit_list d) (kit_tup d) q
  | dic =>
    obtain ⟨r, rfl, hr⟩ := h
    exact isi2_dic (off_sub _ _ hr) hp (by decide +kernel : kitB "dict" "list" = some false) (by decide +kernel : kitB "dict" "tuple" = some false) q
theorem isi_thl {H : Hp} {v : V} {ths : List Th} {S : Addr → Prop} {p : Addr} {Q : VK} (h : ThL K (off S H) v ths) (hp : H p = some (.tup [.ty "list", .ty "tuple"])) (q : Q (.bl true) H) : rIsiT K [v, .ref p] H Q := by
  obtain ⟨r, xs, rfl, hs, _⟩ := h
  have go : ∀ {n : String} {b c : Bool}, TyX K H (.ref r) (.type n) → kitB n "list" = some b → kitB n "tuple" = some c → (b || c) = true → rIsiT K [.ref r, .ref p] H Q := fun {n b c} ty hk hc e => by
    refine ⟨.ref r, p, [.ty "list", .ty "tuple"], .type n, [.type "list", .type "tuple"], b || c, rfl, hp, .cons (.ty _) (.cons (.ty _) .nil), ty, ?_, by rw [e]; exact q⟩
    refine kitAny_cons (kit_ty hk) (fun hb => ?_) (fun hb => by rw [hb]; rfl)
    refine kitAny_cons (kit_ty hc) (fun hd => ?_) (fun hd => by rw [hd]; cases b <;> rfl)
    rw [hb, hd]; exact kitAny_nil
  rcases hs with hs | hs
  · exact go (sq_ty (off_sub.seq hs)) (by decide +kernel : kitB "list" "list" = some true) (by decide +kernel : kitB "list" "tuple" = some false) rfl
  · exact go (sqt_ty (same_t off_sub hs)) (by decide +kernel : kitB "tuple" "list" = some false) (by decide +kernel : kitB "tuple" "tuple" = some true) rfl
def spIsListT (K : PySem.W.Frag) : Sp := fun vs H Q _ => ∃ (S : Addr → Prop) (v : V), vs = [v] ∧ Kn S H ∧ ((∃ th, ThAt K (off S H) v th ∧ ∀ H', Same H H' → Q (.bl (isListT th)) H') ∨ ∃ ths, ThL K (off S H) v ths ∧ ∀ H', Same H H' → Q (.bl true) H')
theorem ok_is_listT (T : Txt K mg a fd C tk) : FnOk P w K mg base CX0 1 (a 2) (fd 2) ["value"] (spIsListT K) := by
  refine T.F_is_list.ok sc_is_list (fun vs H Q E h => by obtain ⟨_, _, rfl, _⟩ := h; rfl) (fun cdv A outer s H vs Q E hr h => ?_)
  obtain ⟨S, v, rfl, kn, h⟩ := h
  refine ⟨_, (pss_one (ps_ret (pe_callB (k_isiT (K := K)) (by rfl) T.z_isinstance (by decide +kernel) (pa_cons (pv 0) (pa_cons (pe_tup (pa_cons (pe_bltn (v := .ty "list") (by rfl) T.z_list (by decide +kernel) rfl) (pa_cons (pe_bltn (v := .ty "tuple") (by rfl) T.z_tuple (by decide +kernel) rfl) pa_nil))) pa_nil))))), ?_⟩
  refine s_ret (t_cb (a_cons (t_var rfl (a_cons (t_tup (a_cons (t_c (a_cons (t_c (a_nil ⟨le2, fun p hp => a_nil ?_⟩))))))))))
  rcases h with ⟨th, hd, q⟩ | ⟨ths, hd, q⟩
  · exact isiT_th (hd.same (off_same (same_new hp))) upd_same (q _ (same_new hp))
  · exact isi_thl (hd.same (off_same (same_new hp))) upd_same (q _ (same_new hp))
def spRowT (K : PySem.W.Frag) : Sp := fun vs H Q _ => ∃ (S : Addr → Prop) (th : Th) (v : V) (n : Nat), vs = [v, .int (n : Nat)] ∧ Kn S H ∧ ThAt K (off S H) v th ∧ (∀ ds, itemsT th = some ds → ds.length ≤ 1000) ∧ ∀ H', Same H H' → Q (.bl (rowT n th)) H'
theorem ok_is_rowT (T : Txt K mg a fd C tk) : FnOk P w K mg base CX0 4 (a 4) (fd 4) ["value", "size"] (spRowT K) := by
  have G_is_list := ok_is_listT (P := P) (w := w) (base := base) T
  have G_is_number_below : FnOk P w K mg base CX0 3 (a 3) (fd 3) ["value", "many"] (spBelow K) := ok_is_number_below T
  refine T.F_is_row.ok sc_is_row (fun vs H Q E h => by obtain ⟨_, _, _, _, rfl, _⟩ := h; rfl) (fun cdv A outer s H vs Q E hr h => ?_)
  obtain ⟨S, th, v, n, rfl, kn, hth, hlen, q⟩ := h
  refine ⟨_, (pss_one (ps_ret (pe_and (pe_call G_is_list (hr.mono (by omega)) (by rfl) T.m_is_list T.F_is_list.kp T.b_is_list .nil pass0 (pa_cons (pv 0) pa_nil)) (pe_and (pe_cmpR op_eq (pe_callB (k_len (K := K)) (by rfl) T.z_len (by decide +kernel) (pa_cons (pv 0) pa_nil)) (pv 1) (nomark _)) (pe_one (pe_callB (k_all (K := K) rfl) (by rfl) T.z_all (by decide +kernel) (pa_cons (pe_lc (own := [("part", 2)]) (g := gName 2) (tt := tYes) rfl sc_is_row.nd (k_pi (K := K) (pv 0)) (blkOk_by (own := [("part", 2)]) (N := is_row_N) (sc := defScope is_row_s) (by decide +kernel)) (fun _ _ _ _ _ => (pg_name (i := 2) sc_is_row.nd rfl (Or.inl rfl))) (fun _ _ _ _ _ => pts_nil) (fun _ _ _ _ _ => (pe_call G_is_number_below (hr.mono (by omega)) (by rfl) T.m_is_number_below T.F_is_number_below.kp T.b_is_number_below .nil pass0 (pa_cons (pv 2) (pa_cons (pv 1) pa_nil))))) pa_nil))))))), ?_⟩
  refine s_ret (t_andV (t_call1 (t_var rfl ⟨S, v, rfl, kn, .inl ⟨th, hth, fun H1 s1 => ?_⟩⟩)))
  cases hi : itemsT th with
  | none =>
    have e0 : isListT th = false := by
      cases th with
      | dic => rfl
      | dat d =>
        have := items_list (d := d)
        rw [show items d = none from hi] at this
        exact this.symm
    have e1 : rowT n th = false := by unfold rowT; rw [hi]
    rw [e1] at q
    rw [e0]
    exact bl_if (fun z => nomatch z) fun _ => q H1 s1
  | some ds =>
  have e0 : isListT th = true := by
    cases th with
    | dic => cases hi
    | dat d =>
      have := items_list (d := d)
      rw [show items d = some ds from hi] at this
      exact this.symm
  have e1 : rowT n th = (decide (ds.length = n) && ds.all (belowD (n : Nat))) := by unfold rowT; rw [hi]
  rw [e1] at q
  rw [e0]
  have l1000 := hlen ds hi
  obtain ⟨c, rfl⟩ : ∃ c, th = .dat (sq c ds) := by
    cases th with
    | dic => cases hi
    | dat d => obtain ⟨c, rfl⟩ := items_sq' (d := d) hi; exact ⟨c, rfl⟩
  replace hth : Dp K (off S H) v (sq c ds) := hth
  have kn1 := kn.same s1
  have hd1 := dp_same (off_same s1) _ _ hth
  refine bl_ifT (t_andV (t_op (t_cb1 (t_var rfl (len_d off_sub hd1 (items_sq c ds) (t_var rfl ⟨rfl, ?_⟩))))))
  rw [dec_int]
  refine bl_if (fun e => ?_) (fun e => ?_)
  · rw [e, Bool.true_and] at q
    refine t_cb1 (lcM c ds (fun d => d) (fun d => .bool (belowD ((n : Nat) : Int) d)) kn1 (fun Q q => t_var rfl (q _ _ (Same.refl _) (by rw [List.map_id']; exact hd1))) (by omega) (fun _ => rfl) (fun d0 hd0 z H2 S' s2 kn2 dz hS hoff Q q => ?_) fun D H2 ys hD s2 hd2 h2 => ?_)
    · exact t_call2 (t_var rfl (t_var rfl ⟨S', (d0, ((n : Nat) : Int)), kn2, .cons dz (.cons (.int _) .nil), trivial, fun b H4 s4 db => q b H4 s4 db⟩))
    · refine all_d (bs := ds.map (belowD ((n : Nat) : Int))) off_sub (by rw [List.map_map]; exact h2) ?_
      have eall : (ds.map (belowD ((n : Nat) : Int))).all id = ds.all (belowD ((n : Nat) : Int)) := by rw [List.all_map]; rfl
      rw [eall]
      exact q H2 (s1.trans s2)
  · rw [e, Bool.false_and] at q
    exact q H1 s1
end
end K31

set_option maxRecDepth 100000
set_option maxHeartbeats 1000000
/-! enumerate of a tuple: as the library's own rule of a list -/
namespace Kh
open PySem PySem.Spec PyProof.Rows L2
open Sem (wp)
open AutoSeq1 (wpAny_loadPart')
def IteT (K : PySem.W.Frag) (a : Addr) : It :=
  ⟨fun i H => ∃ (xs : List V) (x : V), SqT K H a xs ∧ xs[i]? = some x, fun i H v H' => ∃ T x, v = .ref T ∧ H T = none ∧ H' = upd H T (.tup [.int (i : Nat), x]) ∧ ∀ xs, SqT K H a xs → xs[i]? = some x, fun i H => ∃ xs : List V, SqT K H a xs ∧ xs.length ≤ i⟩
theorem enum_end_tup {prog : Program} {w : World} {A : Around} {E : Value → Shared → Prop} {s : Shared} {e it l : Addr} {i : Nat} {items : Array Value} {old : Value} {Q : Option Value → Shared → Prop} (hh : A.handled = none)
    (he : IsEnum s.heap e it i old) (hit : s.heap.IsTupleIter it l i) (hl : s.heap.IsTuple l items) (hx : items[i]? = none)
    (hQ : ∀ h', Heap.ExtBut it s.heap h' → Q none { s with heap := h' }) : wpAny (model prog w) A (pyNext (.ref e)) Q E s := by
  have hT : s.TypeIs (.ref e) "enumerate" := ⟨_, he, rfl⟩
  unfold pyNext
  refine wpAny_bind (wpAny_attempt (wpAny_callSpecial?_slot (name := Str.ofString "__next__") hT F.slot_enumerate_next
    (wpAny_call_entry F.slot_enumerate_next hT F.entry_enumerate_next ?_ (F.args_enumerate_next_1 _))))
  show wpAny _ _ (field (.ref e) 2 >>= _) _ _ _
  refine wpAny_bind (wpAny_field he rfl (x := .ref it) rfl ?_)
  refine wpAny_bind (wpAny_nextOf_tuple_end (show A.in1.handled = none from hh) hit hl hx fun h' x he' hx' => ?_)
  obtain ⟨o, ho, hc⟩ := hx'
  refine wpAny_bind (wpAny_isInstance (T := "StopIteration") (b := true) ⟨o, ho, hc⟩ isSubtype_stop ?_)
  exact wpAny_pure (hQ _ he')
/-- enumerate(a tuple): its two new cells -/
theorem meets_enumT (v : Addr) (items : Array Value) :
    Meets (Builtin.«enumerate.__new__» ⟨[.type "enumerate", .ref v], []⟩) (fun _ R s => s.heap.IsTuple v items ∧
      R (.ok (.ret (.ref (s.heap.push { cls := .type "tuple_iterator", data := .fields #[.ref v, .int 0 0] }).objs.size))) { s with heap := (s.heap.push { cls := .type "tuple_iterator", data := .fields #[.ref v, .int 0 0] }).push { cls := .type "enumerate", data := .fields #[.none, .bool false, .ref s.heap.objs.size, rawInt 0, .none, .none] } }) :=
  .of_wp fun prog w A R s h => by
    obtain ⟨hp, g, d, tk, os⟩ := s; obtain ⟨h1, h⟩ := h
    have hsub := sub_enumerate
    have q1 : ∀ {A' : Around} {E : Value → Shared → Prop} {Q : Value → Shared → Prop}, Q (.ref hp.objs.size) ⟨hp.push { cls := .type "tuple_iterator", data := .fields #[.ref v, .int 0 0] }, g, d, tk, os⟩ → wpAny (model prog w) A' (pyIter (.ref v)) Q E ⟨hp, g, d, tk, os⟩ :=
      fun q => (begins_tuple v items).iter prog w _ _ ⟨hp, g, d, tk, os⟩ _ h1 q
    obtain ⟨ol, hol, hcl, nl, hdl⟩ := id h1
    wp_walk using q1, wpAny_loadPart' hol
    refine wpAny_stack_any fun st => wpAny_pure ?_
    split
    · rename_i c _ _ _ _ _
      cases (c == Value.type "enumerate")
      · wp_walk using q1, wpAny_loadPart' hol
        exact ⟨_, rfl, h⟩
      · wp_walk using q1, wpAny_loadPart' hol
        exact ⟨_, rfl, h⟩
    · wp_walk using q1, wpAny_loadPart' hol
      exact ⟨_, rfl, h⟩
theorem turn_enumT {P : Program} {w : World} {K : PySem.W.Frag} {elts : List Expr} {kk : Nat} {tpos : Pos} (a e it : Addr) :
    Turn P w K (.Tuple elts kk tpos) (IteT K a) [e, it] e (fun i h => (∃ old, IsEnum h e it ((i : Nat) : Int) old) ∧ h.IsTupleIter it a i ∧ e ≠ it ∧ a ≠ it ∧ a ≠ e) where
  mem := by simp
  obj := fun i h st b hb => by
    obtain ⟨⟨old, he⟩, ⟨o, ho, hc, hd⟩, _⟩ := st
    have e' : b = e ∨ b = it := by simpa using hb
    rcases e' with z | z
    · rw [z]; exact ⟨_, he, fun v q => nomatch q⟩
    · rw [z]; exact ⟨o, ho, fun v q => by rw [hd] at q; cases q⟩
  keep := fun i h h' st k => let ⟨⟨old, he⟩, hi, hne⟩ := st; ⟨⟨old, k e (by simp) _ he⟩, hi.at fun o q => k it (by simp) o q, hne⟩
  item := by
    intro X hP hw hK hc i pins s σ H E I hf st hg
    subst hP hw hK
    obtain ⟨⟨old, he⟩, hit, hne, hai, hae⟩ := st
    obtain ⟨xs, x, hq, hx⟩ := hg
    obtain ⟨its, rv, p, hz⟩ := I.tuple hq
    obtain ⟨u, hu, ru⟩ := rv.get hx
    have hh : X.A.handled = none := I.ok.hd hc
    have hel : e < s.heap.objs.size := Heap.lt_size he
    have hil : it < s.heap.objs.size := by obtain ⟨_, q, _⟩ := hit; exact Heap.lt_size q
    have il : i < its.toArray.size := by
      have := (List.getElem?_eq_some_iff.mp hu).1
      simpa using this
    refine wpAny_pyNext_enum_itemD (Draws.tuple (show X.A.in1.handled = none from hh) it a hai its.toArray) he ⟨hit, show s.heap.IsTuple a its.toArray from p⟩ il hne (by simp [hne, Ne.symm hae]) fun y h' tk hy ho hst' hT hsz hk => ?_
    have ey : y = u := by
      have : its.toArray[i]? = some u := by simpa using hu
      rw [this] at hy
      exact (Option.some.inj hy).symm
    subst ey
    refine ⟨_, rfl, wpAny_letOwnedTupleGo_enum (s := { s with heap := h', toks := tk + 1 }) ho fun h'' he' sb => ?_⟩
    have hT2 : h''.get? s.heap.objs.size = some { cls := .type "tuple", data := .seq #[.int i tk, y] } := (sb.2 _ (Nat.ne_of_gt hel)).trans hT
    have new : ObjOk X.prog X.w (upd H s.heap.objs.size (.tup [.int (i : Nat), x])) h'' s.heap.objs.size (.tup [.int (i : Nat), x]) :=
      ⟨by show 2 ≤ sizeLine; decide, [.int i tk, y], .cons ⟨_, rfl⟩ (.cons ru .nil), ⟨_, hT2, rfl, _, rfl⟩⟩
    have I1 : Inv X pins σ (upd H s.heap.objs.size (.tup [.int (i : Nat), x])) { s with heap := h'', toks := tk + 1 } :=
      I.turnedNew (ch := [e, it]) (fun b ob hb q => (sb.2 b (fun z => hb (by simp [z]))).trans (hk b ob (fun z => hb (by simp [z])) (fun z => hb (by simp [z])) q)) hf (Nat.le_refl _) new
    refine ⟨.ref s.heap.objs.size, _, I1, rfl, ⟨_, x, rfl, I.hok.fresh (Nat.le_refl _), rfl, fun ys hy => by rw [I.tuple_inj hy hq]; exact hx⟩, ⟨⟨y, ?_⟩, hst'.1.at fun o q => (sb.2 it (Ne.symm hne)).trans q, hne, hai, hae⟩, fun b hb => ?_⟩
    · have e1 : ((i + 1 : Nat) : Int) = (i : Int) + 1 := by omega
      rw [e1]; exact he'
    · have hb' : b < s.heap.objs.size := by
        have e' : b = e ∨ b = it := by simpa using hb
        rcases e' with z | z
        · rw [z]; exact hel
        · rw [z]; exact hil
      rw [upd_ne (Nat.ne_of_lt hb')]
      exact (hf b hb).1
  done := by
    intro X hP hw hK hc i pins s σ H E I hf st hg
    subst hP hw hK
    obtain ⟨⟨old, he⟩, hit, hne, hai, hae⟩ := st
    obtain ⟨xs, hq, hx⟩ := hg
    obtain ⟨its, rv, p, hz⟩ := I.tuple hq
    obtain ⟨f0, f1, f2, f3, f4, f5⟩ := hf it (by simp)
    have hl := rv.length
    exact enum_end_tup (I.ok.hd hc) he hit (show s.heap.IsTuple a its.toArray from p) (by simp; omega) fun h' eb => ⟨rfl, I.turned (t' := s.toks) (fun b o hb q => eb b o hb q) f0 f1 f3 f4 f5⟩
  self := fun A i s Q E st h => let ⟨⟨_, he⟩, _⟩ := st; wpAny_pyIter_enum he h
theorem call_enumT {prog : Program} {w : World} {A : Around} {E : Value → Shared → Prop} {s : Shared} {l : Addr} {items : Array Value} {Q : Value → Shared → Prop} (hL : s.heap.IsTuple l items)
    (h : ∀ h', IsEnum h' (s.heap.objs.size + 1) s.heap.objs.size 0 .none → h'.IsTupleIter s.heap.objs.size l 0 → h'.objs.size = s.heap.objs.size + 2 →
      (∀ b o, s.heap.get? b = some o → h'.get? b = some o) → Q (.ref (s.heap.objs.size + 1)) { s with heap := h' }) :
    wpAny (model prog w) A (call (.type "enumerate") [.ref l]) Q E s := by
  refine callType_new F.called_enumerate (by decide) (F.typeCall_enumerate_1 _) (F.newCall_enumerate_1 _) (fun obj => F.args_object_init_2 obj _) F.entry_enumerate_new
    (meets_enumT l items) ⟨hL, ?_⟩
  have hz : (s.heap.push { cls := .type "tuple_iterator", data := .fields #[.ref l, .int 0 0] }).objs.size = s.heap.objs.size + 1 := Heap.size_push ..
  show _ ∧ _
  rw [hz]
  have he : IsEnum ((s.heap.push { cls := .type "tuple_iterator", data := .fields #[.ref l, .int 0 0] }).push
      { cls := .type "enumerate", data := .fields #[.none, .bool false, .ref s.heap.objs.size, rawInt 0, .none, .none] }) (s.heap.objs.size + 1) s.heap.objs.size 0 .none := by
    have := Heap.get?_push_size (s.heap.push { cls := .type "tuple_iterator", data := .fields #[.ref l, .int 0 0] })
      (o := { cls := .type "enumerate", data := .fields #[.none, .bool false, .ref s.heap.objs.size, rawInt 0, .none, .none] }) rfl
    rw [hz] at this; exact this
  refine ⟨⟨_, he, rfl⟩, h _ he ⟨_, Heap.get?_push_of_some _ (Heap.get?_push_size _ rfl), rfl, rfl⟩ (by rw [Heap.size_push, hz]) fun b o x => Heap.get?_push_of_some _ (Heap.get?_push_of_some _ x)⟩
def iEnumT (K : PySem.W.Frag) (ta : TA) : TI := fun σ H R => ta σ H fun vs H1 => ∃ a xs, vs = [.ref a] ∧ SqT K H1 a xs ∧ R (IteT K a) H1
theorem pi_enumT {X : Cx} {e : Expr} {ta : TA} {p pos tpos : Pos} {elts : List Expr} {kk : Nat} (hg : Gl X "enumerate") (hm : X.mg "enumerate" = none) (ha : PA X [e] ta) (hs : starEach [e] X.env = [(false, eval e X.env)] := by rfl) :
    PI X (.Tuple elts kk tpos) (.Call (.Name "enumerate" p) [e] [] pos) (iEnumT X.K ta) := by
  refine ⟨fun pins s σ H R I h => ?_⟩
  refine Call_ (ld_blt I hg hm boot_enumerate (PyProof.Rows.callWith_type1 (thn (ha.run pos pins s σ H _ I h) fun us s1 ⟨vs, H1, I1, r1, q1⟩ => ?_) hs rfl))
  obtain ⟨a, xs, ex, hq, q⟩ := q1
  subst ex
  cases r1 with
  | cons r rr =>
    cases rr
    cases r
    obtain ⟨its, rv, p', hz⟩ := I1.tuple hq
    have hT : s1.heap.IsTuple a its.toArray := p'
    have al : a < s1.heap.objs.size := by obtain ⟨o, ho, _⟩ := hT; exact Heap.lt_size ho
    refine call_enumT hT fun h' he hit hsz hk => wpAny_pyIter_enum he ?_
    have I2 : Inv X pins σ H1 { s1 with heap := h' } := I1.kept (t' := s1.toks) hk
    refine ⟨s1.heap.objs.size + 1, [s1.heap.objs.size + 1, s1.heap.objs.size], _, _, H1, rfl, I2, turn_enumT a (s1.heap.objs.size + 1) s1.heap.objs.size, ⟨⟨.none, he⟩, hit, Nat.succ_ne_self _, Nat.ne_of_lt al, Nat.ne_of_lt (Nat.lt_succ_of_lt al)⟩, fun b hb => ?_, q⟩
    have e' : b = s1.heap.objs.size + 1 ∨ b = s1.heap.objs.size := by simpa using hb
    have hle : s1.heap.objs.size ≤ b := by
      rcases e' with z | z
      · rw [z]; exact Nat.le_add_right _ _
      · rw [z]; exact Nat.le_refl _
    exact I1.fpOk hle (I1.hok.fresh hle)
/-- enumerate of a list or a tuple -/
def iEn (K : PySem.W.Frag) (ta : TA) : TI := fun σ H R => iEnum K ta σ H R ∨ iEnumT K ta σ H R
theorem pi_en {X : Cx} {K : PySem.W.Frag} {e : Expr} {ta : TA} {p pos tpos : Pos} {elts : List Expr} {kk : Nat} (hg : Gl X "enumerate") (hm : X.mg "enumerate" = none) (ha : PA X [e] ta) (h : X.K = K := by rfl) (hs : starEach [e] X.env = [(false, eval e X.env)] := by rfl) :
    PI X (.Tuple elts kk tpos) (.Call (.Name "enumerate" p) [e] [] pos) (iEn K ta) := by
  subst h
  exact ⟨fun pins s σ H R I h => h.elim ((pi_enum hg hm ha hs).run pins s σ H R I) ((pi_enumT hg hm ha hs).run pins s σ H R I)⟩
theorem walk_enumT {K : PySem.W.Frag} {a : Addr} {xs : List V} : Walk (IteT K a) xs.length (fun H => SqT K H a xs) (YPair (fun i => some (.int (i : Nat))) (fun i => xs[i]?)) := by
  refine ⟨fun i _ hi q => ⟨xs, xs[i], q, by simp [hi]⟩, fun _ q => ⟨xs, q, Nat.le_refl _⟩, fun i H v H' _ q y => ?_⟩
  obtain ⟨T, x, h1, h2, h3, h4⟩ := y
  exact ⟨T, .int (i : Nat), x, h1, h2, h3, rfl, h4 xs q⟩
end Kh

set_option maxRecDepth 100000
set_option maxHeartbeats 4000000
namespace K31
open PySem PySem.Spec PyProof.Rows L2 Kh
section
variable {K : PySem.W.Frag}
theorem s_enTh {S : Addr → Prop} {iv : Nat} {v : V} {s1 s2 : Nat} {tb : TS} {D : Ends} {σ : L2.St} {H : Hp} {ths : List Th} (hi : σ[iv]? = some (some v)) (hd : ThL K (off S H) v ths) (Pv : Nat → L2.St → Hp → Prop) (h0 : Pv 0 σ H) (hG : ∀ i σ' H', Pv i σ' H' → Same (off S H) H')
    (hst : ∀ i th y σ' H' H'', ths[i]? = some th → ThAt K (off S H) y th → Pv i σ' H' → Same H' H'' → tb { D with nx := Pv (i + 1), ct := Pv (i + 1), bk := D.nx } ((σ'.set s1 (some (.int (i : Nat)))).set s2 (some y)) H'') (he : ∀ σ' H', Pv ths.length σ' H' → D.nx σ' H') :
    tFor (iEn K (tCons (tVar iv) tNil)) (gTup K 2 (gCons (gName s1) (gCons (gName s2) gNil))) tb D σ H := by
  obtain ⟨a, xs, rfl, hs, lx, ht⟩ := hd
  unfold tFor iEn iEnum iEnumT
  have get : ∀ i y, xs[i]? = some y → ∃ th, ths[i]? = some th ∧ ThAt K (off S H) y th := fun i y hy => by
    have li := (List.getElem?_eq_some_iff.mp hy).1
    have e : ths[i]? = some ths[i] := List.getElem?_eq_getElem (by omega)
    exact ⟨_, e, ht i y _ hy e⟩
  rcases hs with hs | hs
  · refine .inl (a_cons (t_var hi (a_nil ?_)))
    refine ⟨a, xs, rfl, off_sub.seq hs, for_it (walk_enum (K := K) (a := a) (xs := xs)) Pv h0 (fun i σ' H' _ p => (hG i σ' H' p).seq hs) (fun i x σ' H' H'' hi p y => ?_) fun σ' H' p => he σ' H' (lx ▸ p)⟩
    obtain ⟨T0, x1, y1, rfl, hT, rfl, hx, hy⟩ := y
    cases hx
    obtain ⟨th, dj, dy⟩ := get i y1 hy
    exact ⟨T0, [_, y1], rfl, sqT upd_same, rfl, _, [y1], rfl, y1, [], rfl, rfl, hst i th y1 σ' H' _ dj dy p (same_new hT)⟩
  · refine .inr (a_cons (t_var hi (a_nil ?_)))
    refine ⟨a, xs, rfl, same_t off_sub hs, for_it (walk_enumT (K := K) (a := a) (xs := xs)) Pv h0 (fun i σ' H' _ p => same_t (hG i σ' H' p) hs) (fun i x σ' H' H'' hi p y => ?_) fun σ' H' p => he σ' H' (lx ▸ p)⟩
    obtain ⟨T0, x1, y1, rfl, hT, rfl, hx, hy⟩ := y
    cases hx
    obtain ⟨th, dj, dy⟩ := get i y1 hy
    exact ⟨T0, [_, y1], rfl, sqT upd_same, rfl, _, [y1], rfl, y1, [], rfl, rfl, hst i th y1 σ' H' _ dj dy p (same_new hT)⟩
theorem len_thL {S : Addr → Prop} {H : Hp} {v : V} {ths : List Th} {Q : VK} (h : ThL K (off S H) v ths) (q : Q (.int (ths.length : Nat)) H) : Kh.rLen K [v] H Q := by
  obtain ⟨a, xs, rfl, hs, l, _⟩ := h
  exact ⟨a, xs, rfl, hs.imp (fun z => off_sub.seq z) (fun z => same_t off_sub z), by rw [l]; exact q⟩
end
/-- a row that is told as a list or a tuple -/
abbrev rowD (r : Bool × List Nat) : PyData := sq r.1 (r.2.map nD)
theorem rowT_good {n : Nat} {r : Bool × List Nat} (h1 : r.2.length = n) (h2 : ∀ m ∈ r.2, m < n) : rowT n (.dat (rowD r)) = true := by
  have e : itemsT (.dat (rowD r)) = some (r.2.map nD) := items_sq _ _
  unfold rowT
  rw [e]
  show (decide ((r.2.map nD).length = n) && (r.2.map nD).all (belowD (n : Nat))) = true
  rw [List.length_map, decide_eq_true h1, Bool.true_and, List.all_eq_true]
  intro d hd
  obtain ⟨m, hm, rfl⟩ := List.mem_map.mp hd
  exact below_ok (h2 m hm)
/-- a value whose items are few -/
def Few (th : Th) : Prop := ∀ ds, itemsT th = some ds → ds.length ≤ 1000
/-- what is no list of one to seven -/
def NoTab (th : Th) : Prop := ∀ ds, itemsT th = some ds → (ds.length = 0 ∨ 7 < ds.length) ∧ ds.length ≤ 1000
/-- the rows are right, or the first wrong one -/
def spInitX (K : PySem.W.Frag) (C CT : Addr) : Sp := fun vs H Q E => ∃ (S : Addr → Prop) (x : Addr) (dx : Addr) (v : V), vs = [.ref x, v] ∧ Kn S H ∧ S x ∧ H x = some (.ins C dx []) ∧
  ((∃ th, ThAt K (off S H) v th ∧ NoTab th ∧ ∀ dd H', Same H H' → H' dd = some (.xd [("position", .non)]) → E (.ref CT) (some dd) H') ∨
   (∃ ths i th, ThL K (off S H) v ths ∧ ths.length ≤ 7 ∧ ths[i]? = some th ∧ rowT ths.length th = false ∧ (∀ th ∈ ths, Few th) ∧ (∀ (j : Nat) th, j < i → ths[j]? = some th → rowT ths.length th = true) ∧ ∀ dd H', Same H H' → H' dd = some (.xd [("position", .int (i : Nat))]) → E (.ref CT) (some dd) H') ∨
   (∃ (b : Bool) (rs : List (Bool × List Nat)), Dp K (off S H) v (sq b (rs.map rowD)) ∧ Tb (rs.map Prod.snd) ∧ ∀ H' v1, SameBut x H H' → H' x = some (.ins C dx [("_rows", v1)]) → Dp K (off S H') v1 (tT (rs.map Prod.snd)) → Q .non H'))
section
variable {P : Program} {w : World} {K : PySem.W.Frag} {mg : Str → Option Value} {base : Heap} {a : Nat → Addr} {fd : Nat → FuncData} {C : Addr} {tk : Nat → Tok} {CS CT CV CM : Addr}
theorem sq_nT (r : Bool × List Nat) : items (rowD r) = some (r.2.map nD) := items_sq _ _
theorem ok_Table_initX (T : Txt K mg a fd C tk) (U : TxC K mg a C) (R : TxR K mg a fd CS CT CV CM) : FnOk P w K mg base (L2.CX P w) 8 (a 5) (fd 5) ["self", "rows"] (spInitX K C CT) := by
  have G_is_list := ok_is_listT (P := P) (w := w) (base := base) T
  have G_is_row := ok_is_rowT (P := P) (w := w) (base := base) T
  refine T.F_Table_init.okX sc_Table_init (fun vs H Q E h => by obtain ⟨_, _, _, _, rfl, _⟩ := h; rfl) (fun cdv A outer s H vs Q E hr h => ?_)
  obtain ⟨S, x, dx, v, rfl, kn, hS, hx, hcase⟩ := h
  refine ⟨_, (pss_cons (ps_if (PW.pt (pw_or (pt_not (pt_val (pe_call G_is_list (hr.mono (by omega)) (by rfl) T.m_is_list T.F_is_list.kp T.b_is_list .nil pass0 (pa_cons (pv 1) pa_nil)))) (pw_or1 (pt_not (pt_chain op_le op_le pe_int (pe_callB (k_len (K := K)) (by rfl) T.z_len (by decide +kernel) (pa_cons (pv 1) pa_nil)) (pe_glob (v := .int 7) (by rfl) T.m_MOST_VALUES ⟨_, rfl⟩))))))
        (pss_one (ps_raise rfl (takes_of rfl rfl rfl rfl) (pmk_er R.t (ok_er_t R) R.b_t (hr.mono (by omega)) (by rfl) (pa_cons pe_non pa_nil)))) pss_nil)
      (pss_cons (ps_for (passes_of rfl) rfl (pi_en (K := K) (by rfl) T.z_enumerate (pa_cons (pv 1) pa_nil)) (pg_tup rfl (pgs_cons (pg_name (i := 2) sc_Table_init.nd rfl (Or.inl rfl)) (pgs_cons (pg_name (i := 3) sc_Table_init.nd rfl (Or.inl rfl)) pgs_nil)))
        (pss_one (ps_if (pt_not (pt_val (pe_call G_is_row (hr.mono (by omega)) (by rfl) T.m_is_row T.F_is_row.kp T.b_is_row .nil pass0 (pa_cons (pv 3) (pa_cons (pe_callB (k_len (K := K)) (by rfl) T.z_len (by decide +kernel) (pa_cons (pv 1) pa_nil)) pa_nil)))))
          (pss_one (ps_raise rfl (takes_of rfl rfl rfl rfl) (pmk_er R.t (ok_er_t R) R.b_t (hr.mono (by omega)) (by rfl) (pa_cons (pv 2) pa_nil)))) pss_nil)))
      (pss_one (ps_fld (pv 0) (pe_callTy (k_tup (K := K)) (by rfl) T.z_tuple (by decide +kernel) (pa_cons (pe_lc (own := [("row", 3)]) (g := gName 3) (tt := tYes) rfl sc_Table_init.nd (k_pi (K := K) (pv 1)) (blkOk_by (own := [("row", 3)]) (N := Table_init_N) (sc := defScope Table_init_s) (by decide +kernel)) (fun _ _ _ _ _ => (pg_name (i := 3) sc_Table_init.nd rfl (Or.inl rfl))) (fun _ _ _ _ _ => pts_nil) (fun _ _ _ _ _ => (pe_callTy (k_tup (K := K)) (by rfl) T.z_tuple (by decide +kernel) (pa_cons (pv 3) pa_nil)))) pa_nil)) rfl)))), ?_⟩
  have raised : ∀ (z : V) (H1 : Hp), Same H H1 → (∀ dd H', Same H H' → H' dd = some (.xd [("position", z)]) → E (.ref CT) (some dd) H') → [z].length ≤ 1000 ∧ ∀ a, H1 a = none → spEr CT "position" (.ref a :: ([z] ++ [])) (upd H1 a (exo a CT none)) (fun u H2 => u = .non ∧ ∃ (d : Addr) (fs : List (Str × V)), H2 a = some (exo a CT (some d)) ∧ H2 d = some (exd d fs) ∧ H1 d = none ∧ E (.ref CT) (some d) (upd (del H2 a) d (.xd fs))) (fun _ _ _ => False) :=
    fun z H1 s1 q => er_mk (Q := E) fun d H' _ s h => q d H' (s1.trans s) h
  rcases hcase with ⟨th, hth, no, qe⟩ | ⟨ths, i, th, hl, l7, hi, bad, few, good, qe⟩ | ⟨b, rs, hd, tb, q⟩
  · refine s_seq (s_if (b_or (b_not (b_val (t_call1 (t_var rfl ⟨S, v, rfl, kn, .inl ⟨th, hth, fun H1 s1 => ⟨_, rfl, ?_⟩⟩⟩))))))
    cases hit : itemsT th with
    | none =>
      have e0 : isListT th = false := by
        cases th with
        | dic => rfl
        | dat d =>
          have := items_list (d := d)
          rw [show items d = none from hit] at this
          exact this.symm
      refine ifT (by rw [e0]; rfl) (ifT rfl ?_)
      exact t_er (t_c (raised .non H1 s1 qe))
    | some ds =>
      obtain ⟨h1, h2⟩ := no ds hit
      have e0 : isListT th = true := by
        cases th with
        | dic => cases hit
        | dat d =>
          have := items_list (d := d)
          rw [show items d = some ds from hit] at this
          exact this.symm
      obtain ⟨c, rfl⟩ : ∃ c, th = .dat (sq c ds) := by
        cases th with
        | dic => cases hit
        | dat d => obtain ⟨c, rfl⟩ := items_sq' (d := d) hit; exact ⟨c, rfl⟩
      replace hth : Dp K (off S H) v (sq c ds) := hth
      have hd1 := dp_same (off_same s1) _ _ hth
      refine ifF (by rw [e0]; rfl) ?_
      refine b_not (b_test (t_c (t_cb1 (t_var rfl (len_d off_sub hd1 (items_sq c ds) ⟨_, _, rfl, rfl, ?_⟩)))))
      refine bl_if (fun e => ?_) (fun e => ?_)
      · have e1 := of_decide_eq_true e
        refine t_c ⟨_, _, rfl, rfl, ⟨_, rfl, ifT ?_ (t_er (t_c (raised .non H1 s1 qe)))⟩⟩
        rw [decide_eq_false (by omega)]; rfl
      · exact ⟨_, rfl, ifT (by rfl) (t_er (t_c (raised .non H1 s1 qe)))⟩
  · have lp : i < ths.length := (List.getElem?_eq_some_iff.mp hi).1
    refine s_seq (s_if (b_or (b_not (b_val (t_call1 (t_var rfl ⟨S, v, rfl, kn, .inr ⟨ths, hl, fun H1 s1 => ⟨_, rfl, ifF rfl ?_⟩⟩⟩))))))
    have kn1 := kn.same s1
    have hl1 := hl.same (off_same s1)
    refine b_not (b_test (t_c (t_cb1 (t_var rfl (len_thL hl1 ⟨_, _, rfl, rfl, ?_⟩)))))
    refine bl_if (fun _ => ?_) (fun c => absurd (show (1 : Int) ≤ (ths.length : Nat) by omega) (of_decide_eq_false c))
    refine t_c ⟨_, _, rfl, rfl, ⟨_, rfl, ifF (by rw [decide_eq_true (by omega)]; rfl) (s_next ?_)⟩⟩
    refine s_seq (s_enTh (iv := 1) (s1 := 2) (s2 := 3) (ths := ths) rfl hl1 (fun j σ' H' => j ≤ i ∧ ∃ x2 x3 : Option V, σ' = [some (.ref x), some v, x2, x3] ∧ Same H1 H') ⟨by omega, _, _, rfl, Same.refl _⟩ (fun j σ' H' ⟨_, _, _, _, z⟩ => off_sub.trans z) (fun j th' y σ' H2 H3 hj dy ⟨le, x2, x3, e, z2⟩ z3 => ?_) fun σ' H2 ⟨le, _⟩ => absurd lp (by omega))
    subst e
    have z := z2.trans z3
    have hl3 := hl1.same (off_same z)
    refine s_if (b_not (b_val (t_call2 (t_var rfl (t_cb1 (t_var rfl (len_thL hl3 ⟨S, th', y, ths.length, rfl, kn1.same z, dy.same (off_same z), few _ (List.mem_of_getElem? hj), fun H4 s4 => ⟨_, rfl, ?_⟩⟩)))))))
    rcases Nat.lt_or_ge j i with lt | ge
    · rw [good j th' lt hj]
      exact ifF rfl (s_next ⟨lt, _, _, rfl, z.trans s4⟩)
    · obtain rfl : j = i := by omega
      rw [hi] at hj
      cases hj
      rw [bad]
      exact ifT rfl (t_er (t_var rfl (raised _ H4 ((s1.trans z).trans s4) qe)))
  · have p1 := tb.pos
    have p7 := tb.few
    rw [List.length_map] at p1 p7
    have hl : ThL K (off S H) v ((rs.map rowD).map Th.dat) := .of hd
    refine s_seq (s_if (b_or (b_not (b_val (t_call1 (t_var rfl ⟨S, v, rfl, kn, .inr ⟨_, hl, fun H1 s1 => ⟨_, rfl, ifF rfl ?_⟩⟩⟩))))))
    have kn1 := kn.same s1
    have hd1 := dp_same (off_same s1) _ _ hd
    refine b_not (b_test (t_c (t_cb1 (t_var rfl (len_d off_sub hd1 (items_sq b _) ⟨_, _, rfl, rfl, ?_⟩)))))
    rw [List.length_map]
    refine bl_if (fun _ => ?_) (fun c => absurd (show (1 : Int) ≤ (rs.length : Nat) by omega) (of_decide_eq_false c))
    refine t_c ⟨_, _, rfl, rfl, ⟨_, rfl, ifF (by rw [decide_eq_true (by omega)]; rfl) (s_next ?_)⟩⟩
    refine s_seq (s_enTh (iv := 1) (s1 := 2) (s2 := 3) (ths := (rs.map rowD).map Th.dat) rfl (.of hd1) (fun j σ' H' => ∃ x2 x3 : Option V, σ' = [some (.ref x), some v, x2, x3] ∧ Same H1 H') ⟨_, _, rfl, Same.refl _⟩ (fun j σ' H' ⟨_, _, _, z⟩ => off_sub.trans z) (fun j th' y σ' H2 H3 hj dy ⟨x2, x3, e, z2⟩ z3 => ?_) fun σ' H2 ⟨x2, x3, e, z2⟩ => ?_)
    · subst e
      have z := z2.trans z3
      have hd3 := dp_same (off_same z) _ _ hd1
      rw [List.map_map] at hj
      obtain ⟨r, rj, rm, rfl⟩ := at_map hj
      have rg : rowT rs.length (.dat (rowD r)) = true := rowT_good (by rw [tb.row _ (List.mem_map.mpr ⟨r, rm, rfl⟩), List.length_map]) (fun m hm => by have := tb.num _ (List.mem_map.mpr ⟨r, rm, rfl⟩) m hm; rw [List.length_map] at this; exact this)
      refine s_if (b_not (b_val (t_call2 (t_var rfl (t_cb1 (t_var rfl (len_d off_sub hd3 (items_sq b _) ⟨S, .dat (rowD r), y, rs.length, by rw [List.length_map], kn1.same z, dy.same (off_same z), fun ds e => ?_, fun H4 s4 => ⟨_, rfl, ?_⟩⟩)))))))
      · have e' : items (rowD r) = some ds := e
        rw [sq_nT] at e'
        cases e'
        rw [List.length_map, tb.row _ (List.mem_map.mpr ⟨r, rm, rfl⟩), List.length_map]; omega
      · rw [rg]
        exact ifF rfl (s_next ⟨_, _, rfl, z.trans s4⟩)
    · subst e
      have hd2 := dp_same (off_same z2) _ _ hd1
      have kn2 := kn1.same z2
      have z := s1.trans z2
      refine nx_of (s_fld (t_cb1 (lcM b rs rowD (fun r => nT r.2) kn2 (fun Q q => t_var rfl (q _ _ (Same.refl _) hd2)) (by omega) (fun _ => rfl) (fun r hr y H3 S3 s3 kn3 dy hS3 ho Q q => t_cb1 (t_var rfl (tup_d kn3 dy (sq_nT r) fun u H4 s4 d4 => q u H4 s4 d4))) fun D H3 ys hD s3 hd3 h3 => ?_)))
      refine tup_d (kn2.same s3) h3 rfl fun v1 H4 s4 d4 => ?_
      have hx4 := s4 _ _ (s3 _ _ (z _ _ hx))
      refine t_var rfl ⟨x, C, dx, [], rfl, hx4, U.cls, U.n_rows, by decide, ?_⟩
      have b2 : SameBut x H (upd H4 x (.ins C dx [("_rows", v1)])) := bmut (sbut (z.trans (s3.trans s4)))
      have d5 := dp_same (off_bt (H' := upd H4 x (.ins C dx [("_rows", v1)])) hS (bmut (sbut (Same.refl H4)))) _ _ d4
      have et : PyData.tuple (rs.map fun r => nT r.2) = tT (rs.map Prod.snd) := by unfold tT; rw [List.map_map]; rfl
      rw [et] at d5
      exact nx_of (q _ v1 b2 upd_same d5)
end
end K31

set_option maxRecDepth 100000
set_option maxHeartbeats 4000000
namespace K31
open PySem PySem.Spec PyProof.Rows L2 Kh
section
variable {P : Program} {w : World} {K : PySem.W.Frag} {mg : Str → Option Value} {base : Heap} {a : Nat → Addr} {fd : Nat → FuncData} {C : Addr} {tk : Nat → Tok} {CS CT CV CM : Addr}
/-- any value, judged -/
def spCheckX (K : PySem.W.Frag) (C CV : Addr) : Sp := fun vs H Q E => ∃ (S : Addr → Prop) (R : List (List Nat)) (x : Addr) (v : V) (d : PyData), vs = [.ref x, v] ∧ Kn S H ∧ TabAt K C (off S H) R x ∧ Tb R ∧ Dp K (off S H) v d ∧
  ((belowD ((R.length : Nat) : Int) d = true ∧ ∀ H', Same H H' → Q .non H') ∨ (belowD ((R.length : Nat) : Int) d = false ∧ ∀ dd H', Same H H' → H' dd = some (.xd [("value", v)]) → E (.ref CV) (some dd) H'))
theorem ok_check_valueX (T : Txt K mg a fd C tk) (U : TxC K mg a C) (R : TxR K mg a fd CS CT CV CM) : FnOk P w K mg base (L2.CX P w) 4 (a 11) (fd 11) ["table", "value"] (spCheckX K C CV) := by
  have G_is_number_below : FnOk P w K mg base CX0 3 (a 3) (fd 3) ["value", "many"] (spBelow K) := ok_is_number_below T
  have G_Table_len := ok_Table_len (P := P) (w := w) (base := base) T U
  refine T.F_check_value.okX sc_check_value (fun vs H Q E h => by obtain ⟨_, _, _, _, _, rfl, _⟩ := h; rfl) (fun cdv A outer s H vs Q E hr h => ?_)
  obtain ⟨S, RR, x, v, d, rfl, kn, ht, tb, hd, hq⟩ := h
  refine ⟨_, (pss_one (ps_if (pt_not (pt_val (pe_call G_is_number_below (hr.mono (by omega)) (by rfl) T.m_is_number_below T.F_is_number_below.kp T.b_is_number_below .nil pass0 (pa_cons (pv 1) (pa_cons (pe_callB (call_lenI (runsOk G_Table_len T.b_Table_len) (hr.mono (by omega)) U.me_len) (by rfl) T.z_len (by decide +kernel) (pa_cons (pv 0) pa_nil)) pa_nil)))))
        (pss_one (ps_raise rfl (takes_of rfl rfl rfl rfl) (pmk_er R.v (ok_er_v R) R.b_v (hr.mono (by omega)) (by rfl) (pa_cons (pv 1) pa_nil)))) pss_nil)), ?_⟩
  refine s_if (b_not (b_val (t_call2 (t_var rfl (t_cb1 (t_var rfl (len_tab kn ht tb fun H1 s1 => ⟨S, (d, (RR.length : Nat)), kn.same s1, .cons (dp_same (off_same s1) _ _ hd) (.cons (.int _) .nil), trivial, fun b H2 s2 db => ?_⟩)))))))
  replace db : Dp K (off S H2) b (.bool (belowD ((RR.length : Nat) : Int) d)) := db
  rcases hq with ⟨e, q⟩ | ⟨e, q⟩
  · rw [e] at db
    cases db
    exact ⟨_, rfl, ifF rfl (s_next (q _ (s1.trans s2)))⟩
  · rw [e] at db
    cases db
    exact ⟨_, rfl, ifT rfl (t_er (t_var rfl (er_mk (Q := E) fun dd H' _ s h => q dd H' ((s1.trans s2).trans s) h)))⟩
/-- table.at(x, y), one of both wrong -/
def spAtX (K : PySem.W.Frag) (C CV : Addr) : Sp := fun vs H Q E => ∃ (S : Addr → Prop) (R : List (List Nat)) (x : Addr) (u v : V) (d e : PyData), vs = [.ref x, u, v] ∧ Kn S H ∧ TabAt K C (off S H) R x ∧ Tb R ∧ Dp K (off S H) u d ∧ Dp K (off S H) v e ∧
  ((belowD ((R.length : Nat) : Int) d = false ∧ ∀ dd H', Same H H' → H' dd = some (.xd [("value", u)]) → E (.ref CV) (some dd) H') ∨ (belowD ((R.length : Nat) : Int) d = true ∧ belowD ((R.length : Nat) : Int) e = false ∧ ∀ dd H', Same H H' → H' dd = some (.xd [("value", v)]) → E (.ref CV) (some dd) H'))
theorem ok_Table_atX (T : Txt K mg a fd C tk) (U : TxC K mg a C) (R : TxR K mg a fd CS CT CV CM) : FnOk P w K mg base (L2.CX P w) 5 (a 7) (fd 7) ["self", "x", "y"] (spAtX K C CV) := by
  have G_check_value := ok_check_valueX (P := P) (w := w) (base := base) T U R
  refine T.F_Table_at.okX sc_Table_at (fun vs H Q E h => by obtain ⟨_, _, _, _, _, _, _, rfl, _⟩ := h; rfl) (fun cdv A outer s H vs Q E hr h => ?_)
  obtain ⟨S, RR, x, u, v, d, e, rfl, kn, ht, tb, hd, he, hq⟩ := h
  refine ⟨_, (pss_cons (ps_expr (pe_call G_check_value (hr.mono (by omega)) (by rfl) T.m_check_value T.F_check_value.kp T.b_check_value .nil (passes_call (takes_of rfl rfl rfl rfl) fun _ _ _ _ h => h) (pa_cons (pv 0) (pa_cons (pv 1) pa_nil))))
      (pss_cons (ps_expr (pe_call G_check_value (hr.mono (by omega)) (by rfl) T.m_check_value T.F_check_value.kp T.b_check_value .nil (passes_call (takes_of rfl rfl rfl rfl) fun _ _ _ _ h => h) (pa_cons (pv 0) (pa_cons (pv 2) pa_nil))))
      (pss_one (ps_ret (pe_ix (k_ix (K := K)) (pe_ix (k_ix (K := K)) (k_fld (K := K) (pv 0) rfl) (pv 1) (fun _ _ => rfl)) (pv 2) (fun _ _ => rfl)))))), ?_⟩
  rcases hq with ⟨e1, q⟩ | ⟨e1, e2, q⟩
  · exact s_seq (s_drop (t_call2 (t_var rfl (t_var rfl ⟨S, RR, x, u, d, rfl, kn, ht, tb, hd, .inr ⟨e1, fun dd H' s h => q dd H' s h⟩⟩))))
  · refine s_seq (s_drop (t_call2 (t_var rfl (t_var rfl ⟨S, RR, x, u, d, rfl, kn, ht, tb, hd, .inl ⟨e1, fun H1 s1 => nx_of ?_⟩⟩))))
    exact s_seq (s_drop (t_call2 (t_var rfl (t_var rfl ⟨S, RR, x, v, e, rfl, kn.same s1, ht.same (off_same s1), tb, dp_same (off_same s1) _ _ he, .inr ⟨e2, fun dd H' s h => q dd H' (s1.trans s) h⟩⟩))))
/-- result of what is no melt -/
def spResX (K : PySem.W.Frag) (C CM : Addr) : Sp := fun vs H Q E => ∃ (S : Addr → Prop) (R : List (List Nat)) (x : Addr) (d : PyData) (v : V), vs = [.ref x, v] ∧ Kn S H ∧ TabAt K C (off S H) R x ∧ Tb R ∧ Dp K (off S H) v d ∧ msz d ≤ 10000 ∧
  ((meltOk R.length d = true ∧ mdp d < 20 ∧ ∀ H', Same H H' → Q (.int (res R d : Nat)) H') ∨ (meltOk R.length d = false ∧ ∀ dd H', Same H H' → H' dd = some (.xd [("value", v)]) → E (.ref CM) (some dd) H'))
theorem ok_resultX (T : Txt K mg a fd C tk) (U : TxC K mg a C) (R : TxR K mg a fd CS CT CV CM) : FnOk P w K mg base (L2.CX P w) 27 (a 15) (fd 15) ["table", "melt"] (spResX K C CM) := by
  have G_is_melt := ok_is_melt (P := P) (w := w) (base := base) T U
  have G_result_of := ok_result_of (P := P) (w := w) (base := base) T U 20
  refine T.F_result.okX sc_result (fun vs H Q E h => by obtain ⟨_, _, _, _, _, rfl, _⟩ := h; rfl) (fun cdv A outer s H vs Q E hr h => ?_)
  obtain ⟨S, RR, x, d, v, rfl, kn, ht, tb, hd, hz, hq⟩ := h
  refine ⟨_, (pss_cons (ps_if (pt_not (pt_val (pe_call G_is_melt (hr.mono (by omega)) (by rfl) T.m_is_melt T.F_is_melt.kp T.b_is_melt .nil pass0 (pa_cons (pv 0) (pa_cons (pv 1) pa_nil)))))
        (pss_one (ps_raise rfl (takes_of rfl rfl rfl rfl) (pmk_er R.m (ok_er_m R) R.b_m (hr.mono (by omega)) (by rfl) (pa_cons (pv 1) pa_nil)))) pss_nil)
      (pss_one (ps_ret (pe_call G_result_of (hr.mono (by omega)) (by rfl) T.m_result_of T.F_result_of.kp T.b_result_of .nil pass0 (pa_cons (pv 0) (pa_cons (pv 1) pa_nil)))))), ?_⟩
  refine s_seq (s_if (b_not (b_val (t_call2 (t_var rfl (t_var rfl ⟨S, RR, x, d, v, rfl, kn, ht, tb, hd, hz, fun H1 s1 => ⟨_, rfl, ?_⟩⟩))))))
  rcases hq with ⟨e, dp, q⟩ | ⟨e, q⟩
  · rw [e]
    refine ifF rfl (s_next ?_)
    have ea : meltA RR.length d = true := by unfold meltOk at e; rw [Bool.and_eq_true] at e; exact e.1
    exact s_ret (t_call2 (t_var rfl (t_var rfl ⟨S, RR, x, d, v, rfl, kn.same s1, ht.same (off_same s1), tb, dp_same (off_same s1) _ _ hd, ea, dp, fun H2 s2 => q H2 (s1.trans s2)⟩)))
  · rw [e]
    exact ifT rfl (t_er (t_var rfl (er_mk (Q := E) fun dd H' _ s h => q dd H' (s1.trans s) h)))
end
end K31

set_option maxRecDepth 100000
set_option maxHeartbeats 1000000
/-! x is True, x is False, of a whole number or a truth value -/
namespace Kh
open PySem PySem.Spec PyProof.Rows L2
def rIsX : R2 := fun x y H Q => ∃ b : Bool, y = .bl b ∧ ((∃ i, x = .int i) ∨ ∃ a, x = .bl a) ∧ Q (.bl (decide (x = .bl b))) H
theorem op_isX {X : Cx} : OpR X (compareOp .Is) rIsX := by
  intro pins s σ H x y v u Q I rx ry h
  obtain ⟨b, rfl, hx, q⟩ := h
  cases (show u = Value.bool b from ry)
  rcases hx with ⟨i, rfl⟩ | ⟨a, rfl⟩
  · obtain ⟨t, rfl⟩ := rx
    exact wpAny_is_other rfl (fun z => nomatch z) ⟨.bl false, H, I, rfl, by simpa using q⟩
  · cases (show v = Value.bool a from rx)
    by_cases e : a = b
    · subst e
      exact wpAny_is_self rfl ⟨.bl true, H, I, rfl, by simpa using q⟩
    · exact wpAny_is_other rfl (fun z => e (Value.bool.inj z)) ⟨.bl false, H, I, rfl, by simpa [e] using q⟩
end Kh
namespace Kh
open PySem PySem.Spec PyProof.Rows L2
theorem k_slT {X : Cx} {K : PySem.W.Frag} (h : X.K = K := by rfl) : SlR X (rSlT K) := by subst h; exact sl_tup
end Kh
namespace Kh
open PySem PySem.Spec PyProof.Rows L2
def rNotX : R2 := fun x y H Q => ∃ b : Bool, y = .bl b ∧ ((∃ i, x = .int i) ∨ ∃ a, x = .bl a) ∧ Q (.bl (!decide (x = .bl b))) H
theorem op_notX {X : Cx} : OpR X (compareOp .IsNot) rNotX := by
  intro pins s σ H x y v u Q I rx ry h
  obtain ⟨b, rfl, hx, q⟩ := h
  cases (show u = Value.bool b from ry)
  rcases hx with ⟨i, rfl⟩ | ⟨a, rfl⟩
  · obtain ⟨t, rfl⟩ := rx
    exact wpAny_isNot_other rfl (fun z => nomatch z) ⟨.bl true, H, I, rfl, by simpa using q⟩
  · cases (show v = Value.bool a from rx)
    by_cases e : a = b
    · subst e
      exact wpAny_isNot_self rfl ⟨.bl false, H, I, rfl, by simpa using q⟩
    · exact wpAny_isNot_other rfl (fun z => e (Value.bool.inj z)) ⟨.bl true, H, I, rfl, by simpa [e] using q⟩
end Kh

set_option maxRecDepth 100000
set_option maxHeartbeats 2000000
/-! what is told of plain data has ordinary signs -/
namespace Kh
open PySem PySem.Spec PyProof.Rows L2
theorem okS_of (s : String) : okS (Str.ofString s) := by
  rw [Str.ofString_eq_toList]
  intro c hc
  obtain ⟨x, _, rfl⟩ := List.mem_map.mp (show c ∈ s.toList.map Char.toNat by simpa using hc)
  have h := x.valid
  have h2 : x.toNat = x.val.toNat := rfl
  rw [h2]
  rcases h with h | ⟨_, h⟩
  · exact Nat.lt_trans h (by decide)
  · exact h
mutual
/-- no strings but simple ones, no dict -/
def Pl : PyData → Bool
  | .none | .bool _ | .int _ => true
  | .str x => (reprText x).cps.all (· < 0x110000)
  | .list ds | .tuple ds => PlAll ds
  | .dict _ => false
def PlAll : List PyData → Bool
  | [] => true
  | d :: ds => Pl d && PlAll ds
end
theorem PlAll_mem : ∀ {ds : List PyData} {d : PyData}, PlAll ds = true → d ∈ ds → Pl d = true
  | _ :: _, d, h, hd => by
    rw [PlAll, Bool.and_eq_true] at h
    rcases List.mem_cons.mp hd with rfl | hd
    · exact h.1
    · exact PlAll_mem h.2 hd
  | [], _, _, hd => nomatch hd
mutual
theorem okS_shown : ∀ d : PyData, Pl d = true → okS d.shown
  | .none, _ => by rw [PyData.shown]; exact okS_of _
  | .bool b, _ => by
    rw [PyData.shown]
    split <;> exact okS_of _
  | .int i, _ => by rw [PyData.shown]; exact okS_of _
  | .str x, h => by
    rw [PyData.shown]
    rw [Pl, Array.all_eq_true] at h
    intro c hc
    obtain ⟨i, hi, rfl⟩ := List.mem_iff_getElem.mp hc
    have := h i (by simpa using hi)
    simpa using this
  | .list ds, h => by
    rw [PyData.shown]
    rw [Pl] at h
    exact okS_list (okS_shownAll ds h)
  | .tuple ds, h => by
    rw [PyData.shown]
    rw [Pl] at h
    exact okS_tup (okS_shownAll ds h)
  | .dict _, h => by rw [Pl] at h; cases h
theorem okS_shownAll : ∀ ds : List PyData, PlAll ds = true → ∀ t ∈ PyData.shownAll ds, okS t
  | [], _, t, ht => by rw [PyData.shownAll] at ht; cases ht
  | d :: ds, h, t, ht => by
    rw [PlAll, Bool.and_eq_true] at h
    rw [PyData.shownAll] at ht
    rcases List.mem_cons.mp ht with rfl | ht
    · exact okS_shown d h.1
    · exact okS_shownAll ds h.2 t ht
end
/-- a told list of two texts and True -/
theorem told_eqv (a b : Str) : PyData.eqv (.list [.str a, .str b, .bool true]) (.list [.str a, .str b, .bool true]) = true := by simp [PyData.eqv, PyData.eqvAll]
theorem told_sh {a b : Str} (ha : okS a) (hb : okS b) : SeqAt.shaped (.list [.str a, .str b, .bool true]) = true := by simp [SeqAt.shaped, PyData.canLay0, PyData.canLayAll0, PyData.depth, PyData.depthAll, okS_ok ha, okS_ok hb]
end Kh

set_option maxRecDepth 100000
set_option maxHeartbeats 4000000
namespace K31
open PySem PySem.Spec PyProof.Rows L2 Kh
/-- two melts that part a table, as they are told -/
structure PartOf (R : List (List Nat)) (a b : PyData) : Prop where
  oka : meltA R.length a = true
  okb : meltA R.length b = true
  la : (leafs a).length ≤ 3
  lb : (leafs b).length ≤ 3
  da : mdp a ≤ 2
  db : mdp b ≤ 2
  sa : msz a ≤ 5
  sb : msz b ≤ 5
  same : ∀ n, n ∈ vals a ↔ n ∈ vals b
  ne : res R a ≠ res R b
theorem pair_nD (n : Nat) : isPair (nD n) = false := rfl
theorem leafs_nD (n : Nat) : leafs (nD n) = [nD n] := leafs_one rfl
theorem toN_nD (n : Nat) : toN (nD n) = n := by simp [toN, nD]
theorem vals_nD (n : Nat) : vals (nD n) = [n] := by unfold vals; rw [leafs_nD]; simp [toN_nD]
theorem vals_pair (a b : PyData) : vals (.tuple [a, b]) = vals a ++ vals b := by unfold vals; rw [leafs_pair, List.map_append]
theorem meltA_nD {m n : Nat} (h : n < m) : meltA m (nD n) = true := by unfold meltA; rw [leafs_nD]; simp [below_ok h]
theorem res_nD (R : List (List Nat)) (n : Nat) : res R (nD n) = n := by rw [res_one rfl, toN_nD]
theorem msz_nD (n : Nat) : msz (nD n) = 1 := msz_one rfl
theorem mdp_nD (n : Nat) : mdp (nD n) = 0 := mdp_one rfl
abbrev p2 (a b : PyData) : PyData := .tuple [a, b]
theorem part_idem {R : List (List Nat)} {x : Nat} (hx : x < R.length) (h : at_ R x x ≠ x) : PartOf R (p2 (nD x) (nD x)) (nD x) where
  oka := meltA_pair.mpr ⟨meltA_nD hx, meltA_nD hx⟩
  okb := meltA_nD hx
  la := by simp [leafs_pair, leafs_nD]
  lb := by simp [leafs_nD]
  da := by simp [mdp_pair, mdp_nD]
  db := by simp [mdp_nD]
  sa := by simp [msz_pair, msz_nD]
  sb := by simp [msz_nD]
  same := fun n => by simp [vals_pair, vals_nD]
  ne := by rw [res_pair, res_nD]; exact h
theorem part_comm {R : List (List Nat)} {x y : Nat} (hx : x < R.length) (hy : y < R.length) (h : at_ R x y ≠ at_ R y x) : PartOf R (p2 (nD x) (nD y)) (p2 (nD y) (nD x)) where
  oka := meltA_pair.mpr ⟨meltA_nD hx, meltA_nD hy⟩
  okb := meltA_pair.mpr ⟨meltA_nD hy, meltA_nD hx⟩
  la := by simp [leafs_pair, leafs_nD]
  lb := by simp [leafs_pair, leafs_nD]
  da := by simp [mdp_pair, mdp_nD]
  db := by simp [mdp_pair, mdp_nD]
  sa := by simp [msz_pair, msz_nD]
  sb := by simp [msz_pair, msz_nD]
  same := fun n => by simp [vals_pair, vals_nD]; exact or_comm
  ne := by rw [res_pair, res_pair, res_nD, res_nD]; exact h
theorem part_assoc {R : List (List Nat)} {x y z : Nat} (hx : x < R.length) (hy : y < R.length) (hz : z < R.length) (h : at_ R (at_ R x y) z ≠ at_ R x (at_ R y z)) : PartOf R (p2 (p2 (nD x) (nD y)) (nD z)) (p2 (nD x) (p2 (nD y) (nD z))) where
  oka := meltA_pair.mpr ⟨meltA_pair.mpr ⟨meltA_nD hx, meltA_nD hy⟩, meltA_nD hz⟩
  okb := meltA_pair.mpr ⟨meltA_nD hx, meltA_pair.mpr ⟨meltA_nD hy, meltA_nD hz⟩⟩
  la := by simp [leafs_pair, leafs_nD]
  lb := by simp [leafs_pair, leafs_nD]
  da := by simp [mdp_pair, mdp_nD]
  db := by simp [mdp_pair, mdp_nD]
  sa := by simp [msz_pair, msz_nD]
  sb := by simp [msz_pair, msz_nD]
  same := fun n => by simp [vals_pair, vals_nD]
  ne := by rw [res_pair, res_pair, res_pair, res_pair, res_nD, res_nD, res_nD]; exact h
section
variable {P : Program} {w : World} {K : PySem.W.Frag} {mg : Str → Option Value} {base : Heap} {a : Nat → Addr} {fd : Nat → FuncData} {C : Addr} {tk : Nat → Tok}
def spParting (K : PySem.W.Frag) (C : Addr) : Sp := fun vs H Q _ => ∃ (S : Addr → Prop) (R : List (List Nat)) (x : Addr), vs = [.ref x] ∧ Kn S H ∧ TabAt K C (off S H) R x ∧ Tb R ∧
  (Melts R → ∀ H', Same H H' → Q .non H') ∧ (∀ u H' d1 d2, Same H H' → Dp K (off S H') u (p2 d1 d2) → PartOf R d1 d2 → ¬ Melts R → Q u H')
/-- a tuple of two -/
theorem t_p2 {S : Addr → Prop} {σ : L2.St} {H : Hp} {ta tb : TE} {d1 d2 : PyData} {Q : VK} (h : ∀ Q : VK, (∀ u H', Same H H' → Kn S H' → Dp K (off S H') u d1 → Q u H') → ta σ H Q) (h2 : ∀ H1, Same H H1 → Kn S H1 → ∀ Q : VK, (∀ u H', Same H1 H' → Kn S H' → Dp K (off S H') u d2 → Q u H') → tb σ H1 Q)
    (q : ∀ u H', Same H H' → Kn S H' → Dp K (off S H') u (p2 d1 d2) → Q u H') : tTup (tCons ta (tCons tb tNil)) σ H Q :=
  t_tup (a_cons (h _ fun u1 H1 s1 kn1 e1 => a_cons (h2 H1 s1 kn1 _ fun u2 H2 s2 kn2 e2 => a_nil ⟨le2, fun p hp => q _ _ ((s1.trans s2).trans (same_new hp)) (kn2.same (same_new hp)) (dp_newT kn2 hp (.cons (dp_same (off_same s2) _ _ e1) (.cons e2 .nil)))⟩)))
theorem e_v {S : Addr → Prop} {σ : L2.St} {H : Hp} {i n : Nat} (hi : σ[i]? = some (some (.int (n : Nat)))) (kn : Kn S H) (Q : VK) (q : ∀ u H', Same H H' → Kn S H' → Dp K (off S H') u (nD n) → Q u H') : tVar i σ H Q := t_var hi (q _ _ (Same.refl _) kn (.int _))
end
end K31

set_option maxRecDepth 100000
set_option maxHeartbeats 4000000
namespace K31
open PySem PySem.Spec PyProof.Rows L2 Kh
section
variable {P : Program} {w : World} {K : PySem.W.Frag} {mg : Str → Option Value} {base : Heap} {a : Nat → Addr} {fd : Nat → FuncData} {C : Addr} {tk : Nat → Tok}
def spMelts (K : PySem.W.Frag) (C : Addr) : Sp := fun vs H Q _ => ∃ (S : Addr → Prop) (R : List (List Nat)) (x : Addr), vs = [.ref x] ∧ Kn S H ∧ TabAt K C (off S H) R x ∧ Tb R ∧
  (Melts R → ∀ H', Same H H' → Q (.bl true) H') ∧ (¬ Melts R → ∀ H', Same H H' → Q (.bl false) H')
def spMeltsL (K : PySem.W.Frag) : Sp := fun vs H Q _ => ∃ (S : Addr → Prop) (R : List (List Nat)) (v : V), vs = [v] ∧ Kn S H ∧ Dp K (off S H) v (nLL R) ∧ Tb R ∧
  (Melts R → ∀ H', Same H H' → Q (.bl true) H') ∧ (¬ Melts R → ∀ H', Same H H' → Q (.bl false) H')
end
end K31

set_option maxRecDepth 100000
set_option maxHeartbeats 4000000
namespace K31
open PySem PySem.Spec PyProof.Rows L2 Kh
/-- x is not True, x a whole number or a truth value -/
def rNotBX : R2 := fun x y H Q => ∃ b : Bool, y = .bl b ∧ ((∃ i, x = .int i) ∧ Q (.bl true) H ∨ ∃ a : Bool, x = .bl a ∧ Q (.bl (!decide (a = b))) H)
theorem op_notBlX {X : Cx} : OpR X (compareOp .IsNot) rNotBX := by
  intro pins s σ H x y v u Q I rx ry h
  obtain ⟨b, rfl, ⟨⟨i, rfl⟩, q⟩ | ⟨a, rfl, q⟩⟩ := h
  · obtain ⟨t, rfl⟩ := rx
    cases (show u = Value.bool b from ry)
    exact wpAny_isNot_other rfl (fun z => nomatch z) ⟨.bl true, H, I, rfl, q⟩
  · cases (show v = Value.bool a from rx)
    cases (show u = Value.bool b from ry)
    by_cases e : a = b
    · subst e
      exact wpAny_isNot_self rfl ⟨.bl false, H, I, rfl, by simpa using q⟩
    · exact wpAny_isNot_other rfl (fun z => e (Value.bool.inj z)) ⟨.bl true, H, I, rfl, by simpa [e] using q⟩
section
variable {P : Program} {w : World} {K : PySem.W.Frag} {mg : Str → Option Value} {base : Heap} {a : Nat → Addr} {fd : Nat → FuncData} {C : Addr} {tk : Nat → Tok}
def eRM (x : List (List Nat) × PyData) : List PyData := [nLL x.1, x.2]
abbrev spIsM (K : PySem.W.Frag) (k : Nat) : Sp := spP K eRM (fun x => Tb x.1 ∧ mdp x.2 < k) fun x => .bool (meltA x.1.length x.2)
theorem ok__law_is_melt (T : Txt K mg a fd C tk) : ∀ k, FnOk P w K mg base CX0 (k + 1) (a 28) (fd 28) ["_law_rows", "_law_thing"] (spIsM K k)
  | 0 => fn_none fun _ _ _ _ h => by
    obtain ⟨_, _, _, _, h, _⟩ := h
    exact Nat.not_lt_zero _ h.2
  | k + 1 => by
    have G__law_is_melt := ok__law_is_melt T k
    refine T.F__law_is_melt.ok sc__law_is_melt (fun vs H Q E h => spP_len (fun _ => rfl) h) (fun cdv A outer s H vs Q E hr h => ?_)
    obtain ⟨S, ⟨R, d⟩, kn, hd, ⟨tb, dp⟩, q⟩ := h
    replace q : ∀ v H', Same H H' → Dp K (off S H') v (.bool (meltA R.length d)) → Q v H' := q
    replace tb : Tb R := tb
    replace dp : mdp d < k + 1 := dp
    obtain - | ⟨dR, - | ⟨hd, ⟨⟩⟩⟩ := hd
    rename_i vR v
    replace dR : Dp K (off S H) vR (.list (R.map nL)) := dR
    replace hd : Dp K (off S H) v d := hd
    refine ⟨_, (pss_cons (ps_if (pt_val (pe_callB (k_isi (K := K)) (by rfl) T.z_isinstance (by decide +kernel) (pa_cons (pv 1) (pa_cons (pe_bltn (v := .ty "tuple") (by rfl) T.z_tuple (by decide +kernel) rfl) pa_nil))))
        (pss_one (ps_ret (pe_and (pe_cmpR op_eq (pe_callB (k_len (K := K)) (by rfl) T.z_len (by decide +kernel) (pa_cons (pv 1) pa_nil)) pe_int (nomark _)) (pe_and (pe_call G__law_is_melt (hr.mono (by omega)) (by rfl) T.m__law_is_melt T.F__law_is_melt.kp T.b__law_is_melt .nil pass0 (pa_cons (pv 0) (pa_cons (pe_ix (k_ix (K := K)) (pv 1) pe_int (fun _ _ => rfl)) pa_nil))) (pe_one (pe_call G__law_is_melt (hr.mono (by omega)) (by rfl) T.m__law_is_melt T.F__law_is_melt.kp T.b__law_is_melt .nil pass0 (pa_cons (pv 0) (pa_cons (pe_ix (k_ix (K := K)) (pv 1) pe_int (fun _ _ => rfl)) pa_nil)))))))) pss_nil)
      (pss_one (ps_ret (pe_and (pe_callB (k_isi (K := K)) (by rfl) T.z_isinstance (by decide +kernel) (pa_cons (pv 1) (pa_cons (pe_bltn (v := .ty "int") (by rfl) T.z_int (by decide +kernel) rfl) pa_nil))) (pe_and (pe_cmpR op_notBlX (pv 1) pe_bl (nomark _)) (pe_and (pe_cmpR op_notBlX (pv 1) pe_bl (nomark _)) (pe_one (pe_chain op_le op_lt pe_int (pv 1) (pe_callB (k_len (K := K)) (by rfl) T.z_len (by decide +kernel) (pa_cons (pv 0) pa_nil)))))))))), ?_⟩
    refine s_seq (s_if (b_val (t_cb2 (t_var rfl (t_c (isi_d off_sub hd (kit_tup d) ⟨_, rfl, ?_⟩))))))
    have fin : ∀ b H', meltA R.length d = b → Same H H' → Q (.bl b) H' := fun b H' e s => q _ _ s (by rw [e]; exact .bl _)
    cases hp : isPair d with
    | true =>
      obtain ⟨d1, d2, rfl⟩ := pair_of hp
      rw [mdp_pair] at dp
      refine ifT rfl (s_ret (t_andV (t_op (t_cb1 (t_var rfl (len_d off_sub hd rfl (t_c ⟨rfl, ?_⟩)))))))
      have e2 : decide (V.int ((([d1, d2] : List PyData).length : Nat) : Int) = V.int 2) = true := decide_eq_true rfl
      rw [e2]
      refine bl_ifT (t_andV (t_call2 (t_var rfl (t_op (t_var rfl (t_c (ix_d (i := 0) off_sub hd rfl rfl fun u1 e1 => ⟨S, (R, d1), kn, .cons dR (.cons e1 .nil), ⟨tb, by show mdp d1 < k; omega⟩, fun b1 H1 s1 db => ?_⟩)))))))
      replace db : Dp K (off S H1) b1 (.bool (meltA R.length d1)) := db
      cases db
      refine bl_if (fun h1 => ?_) (fun h1 => fin _ _ ?_ s1)
      · refine t_call2 (t_var rfl (t_op (t_var rfl (t_c (ix_d (i := 1) off_sub (dp_same (off_same s1) _ _ hd) rfl rfl fun u2 e2 => ⟨S, (R, d2), kn.same s1, .cons (dp_same (off_same s1) _ _ dR) (.cons e2 .nil), ⟨tb, by show mdp d2 < k; omega⟩, fun b2 H2 s2 db => ?_⟩)))))
        replace db : Dp K (off S H2) b2 (.bool (meltA R.length d2)) := db
        cases db
        refine fin _ _ ?_ (s1.trans s2)
        unfold meltA at h1 ⊢
        rw [leafs_pair, List.all_append, h1, Bool.true_and]
      · unfold meltA at h1 ⊢
        rw [leafs_pair, List.all_append, h1, Bool.false_and]
    | false =>
      have em : meltA R.length d = belowD ((R.length : Nat) : Int) d := by unfold meltA; rw [leafs_one hp]; simp
      cases d with
      | tuple es =>
        have h2 := (tup_len2 (d := .tuple es) rfl).symm.trans hp
        have n2 : ¬ es.length = 2 := of_decide_eq_false h2
        refine ifT rfl (s_ret (t_andV (t_op (t_cb1 (t_var rfl (len_d off_sub hd rfl (t_c ⟨rfl, ?_⟩)))))))
        have e2 : decide (V.int ((es.length : Nat) : Int) = V.int 2) = false := decide_eq_false fun h => n2 (by have := V.int.inj h; omega)
        rw [e2]
        exact bl_ifF (fin _ _ (by rw [em]; rfl) (Same.refl _))
      | int i =>
        refine ifF rfl (s_next (s_ret (t_andV (t_cb2 (t_var rfl (t_c (isi_d off_sub hd (kit_int _) (bl_ifT ?_))))))))
        cases hd
        refine t_andV (t_op (t_var rfl (t_c ⟨true, rfl, .inl ⟨⟨_, rfl⟩, bl_ifT ?_⟩⟩)))
        refine t_andV (t_op (t_var rfl (t_c ⟨false, rfl, .inl ⟨⟨_, rfl⟩, bl_ifT ?_⟩⟩)))
        refine t_c (t_var rfl ⟨_, _, rfl, rfl, bl_if (fun h0 => ?_) (fun h0 => ?_)⟩)
        · refine t_cb1 (t_var rfl (len_d off_sub dR rfl ⟨_, _, rfl, rfl, ?_⟩))
          rw [List.length_map]
          refine fin _ _ ?_ (Same.refl _)
          rw [em]
          show (decide (0 ≤ i) && decide (i < ((R.length : Nat) : Int))) = _
          rw [h0, Bool.true_and]
        · refine fin _ _ ?_ (Same.refl _)
          rw [em]
          show (decide (0 ≤ i) && decide (i < ((R.length : Nat) : Int))) = _
          rw [h0, Bool.false_and]
      | bool b =>
        refine ifF rfl (s_next (s_ret (t_andV (t_cb2 (t_var rfl (t_c (isi_d off_sub hd (kit_int _) (bl_ifT ?_))))))))
        cases hd
        refine t_andV (t_op (t_var rfl (t_c ⟨true, rfl, .inr ⟨b, rfl, ?_⟩⟩)))
        cases b with
        | true => exact bl_ifF (fin _ _ (by rw [em]; rfl) (Same.refl _))
        | false =>
          refine bl_ifT (t_andV (t_op (t_var rfl (t_c ⟨false, rfl, .inr ⟨false, rfl, ?_⟩⟩))))
          exact bl_ifF (fin _ _ (by rw [em]; rfl) (Same.refl _))
      | none => exact ifF rfl (s_next (s_ret (t_andV (t_cb2 (t_var rfl (t_c (isi_d off_sub hd (kit_int _) (bl_ifF (fin _ _ (by rw [em]; rfl) (Same.refl _))))))))))
      | str x => exact ifF rfl (s_next (s_ret (t_andV (t_cb2 (t_var rfl (t_c (isi_d off_sub hd (kit_int _) (bl_ifF (fin _ _ (by rw [em]; rfl) (Same.refl _))))))))))
      | list x => exact ifF rfl (s_next (s_ret (t_andV (t_cb2 (t_var rfl (t_c (isi_d off_sub hd (kit_int _) (bl_ifF (fin _ _ (by rw [em]; rfl) (Same.refl _))))))))))
      | dict x => cases hd
abbrev spLRes (K : PySem.W.Frag) (k : Nat) : Sp := spP K eRM (fun x => Tb x.1 ∧ mdp x.2 < k ∧ meltA x.1.length x.2 = true) fun x => nD (res x.1 x.2)
theorem ok__law_result (T : Txt K mg a fd C tk) : ∀ k, FnOk P w K mg base CX0 (k + 1) (a 23) (fd 23) ["_law_rows", "_law_melt"] (spLRes K k)
  | 0 => fn_none fun _ _ _ _ h => by
    obtain ⟨_, _, _, _, h, _⟩ := h
    exact Nat.not_lt_zero _ h.2.1
  | k + 1 => by
    have G__law_result := ok__law_result T k
    refine T.F__law_result.ok sc__law_result (fun vs H Q E h => spP_len (fun _ => rfl) h) (fun cdv A outer s H vs Q E hr h => ?_)
    obtain ⟨S, ⟨R, d⟩, kn, hd, ⟨tb, dp, ok⟩, q⟩ := h
    replace q : ∀ v H', Same H H' → Dp K (off S H') v (nD (res R d)) → Q v H' := q
    replace tb : Tb R := tb
    replace dp : mdp d < k + 1 := dp
    replace ok : meltA R.length d = true := ok
    obtain - | ⟨dR, - | ⟨hd, ⟨⟩⟩⟩ := hd
    rename_i vR v
    replace dR : Dp K (off S H) vR (nLL R) := dR
    replace hd : Dp K (off S H) v d := hd
    refine ⟨_, (pss_cons (ps_if (pt_val (pe_callB (k_isi (K := K)) (by rfl) T.z_isinstance (by decide +kernel) (pa_cons (pv 1) (pa_cons (pe_bltn (v := .ty "tuple") (by rfl) T.z_tuple (by decide +kernel) rfl) pa_nil))))
        (pss_one (ps_ret (pe_ix (k_ix (K := K)) (pe_ix (k_ix (K := K)) (pv 0) (pe_call G__law_result (hr.mono (by omega)) (by rfl) T.m__law_result T.F__law_result.kp T.b__law_result .nil pass0 (pa_cons (pv 0) (pa_cons (pe_ix (k_ix (K := K)) (pv 1) pe_int (fun _ _ => rfl)) pa_nil))) (fun _ _ => rfl)) (pe_call G__law_result (hr.mono (by omega)) (by rfl) T.m__law_result T.F__law_result.kp T.b__law_result .nil pass0 (pa_cons (pv 0) (pa_cons (pe_ix (k_ix (K := K)) (pv 1) pe_int (fun _ _ => rfl)) pa_nil))) (fun _ _ => rfl)))) pss_nil)
      (pss_one (ps_ret (pv 1)))), ?_⟩
    refine s_seq (s_if (b_val (t_cb2 (t_var rfl (t_c (isi_d off_sub hd (kit_tup d) ⟨_, rfl, ?_⟩))))))
    cases hp : isPair d with
    | false =>
      refine ifF (kTup_one hp ok) (s_next (s_ret (t_var rfl (q _ _ (Same.refl _) ?_))))
      rw [res_one hp, ← (meltA_one hp ok).1]; exact hd
    | true =>
      obtain ⟨d1, d2, rfl⟩ := pair_of hp
      rw [mdp_pair] at dp
      have oks := meltA_pair.mp ok
      have r1 := res_lt tb d1 oks.1
      have r2 := res_lt tb d2 oks.2
      refine ifT rfl (s_ret (t_op (t_op (t_var rfl (t_call2 (t_var rfl (t_op (t_var rfl (t_c (ix_d (i := 0) off_sub hd rfl rfl fun u1 e1 => ⟨S, (R, d1), kn, .cons dR (.cons e1 .nil), ⟨tb, by show mdp d1 < k; omega, oks.1⟩, fun b1 H1 s1 db => ?_⟩))))))))))
      replace db : Dp K (off S H1) b1 (nD (res R d1)) := db
      cases db
      have dR1 := dp_same (off_same s1) _ _ dR
      refine ix_d (i := res R d1) off_sub dR1 rfl (row_get tb nL r1) fun row drow => ?_
      refine t_call2 (t_var rfl (t_op (t_var rfl (t_c (ix_d (i := 1) off_sub (dp_same (off_same s1) _ _ hd) rfl rfl fun u2 e2 => ⟨S, (R, d2), kn.same s1, .cons dR1 (.cons e2 .nil), ⟨tb, by show mdp d2 < k; omega, oks.2⟩, fun b2 H2 s2 db => ?_⟩)))))
      replace db : Dp K (off S H2) b2 (nD (res R d2)) := db
      cases db
      refine ix_d (i := res R d2) off_sub (dp_same (off_same s2) _ _ drow) rfl (num_get tb r1 r2) fun z dz => q _ _ (s1.trans s2) ?_
      rw [res_pair]; exact dz
end
end K31

set_option maxRecDepth 100000
set_option maxHeartbeats 4000000
namespace K31
open PySem PySem.Spec PyProof.Rows L2 Kh
section
variable {P : Program} {w : World} {K : PySem.W.Frag} {mg : Str → Option Value} {base : Heap} {a : Nat → Addr} {fd : Nat → FuncData} {C : Addr} {tk : Nat → Tok}
def eV (x : Nat × PyData) : List PyData := [x.2]
abbrev spVals (K : PySem.W.Frag) : Sp := spP K eV (fun x => meltA x.1 x.2 = true ∧ msz x.2 ≤ 10000 ∧ x.2.canLay0 = true ∧ x.2.depth ≤ 30) fun x => nL (vals x.2)
theorem can_pair {e1 e2 : PyData} (h : (PyData.tuple [e1, e2]).canLay0 = true) : e1.canLay0 = true ∧ e2.canLay0 = true := by
  rw [PyData.canLay0, PyData.canLayAll0, PyData.canLayAll0, PyData.canLayAll0] at h
  simp at h; exact h
theorem dep_pair {e1 e2 : PyData} {n : Nat} (h : (PyData.tuple [e1, e2]).depth ≤ n) : e1.depth ≤ n ∧ e2.depth ≤ n := by
  rw [PyData.depth, PyData.depthAll, PyData.depthAll, PyData.depthAll] at h
  omega
/-- any value that can be asked -/
structure Thg (d : PyData) : Prop where
  can : d.canLay0 = true
  dep : d.depth ≤ 30
  sz : msz d ≤ 10000
  dp : mdp d ≤ 20
abbrev spLIsPart (K : PySem.W.Frag) : Sp := spP K eRM (fun x => Tb x.1 ∧ Thg x.2) fun x => .bool (isPartD x.1 x.2)
end
end K31

set_option maxRecDepth 100000
set_option maxHeartbeats 4000000
namespace K31
open PySem PySem.Spec PyProof.Rows L2 Kh
/-! what is drawn in a comprehension -/
section
variable {K : PySem.W.Frag} {S : Addr → Prop} {p : Addr} {H1 : Hp} {σ : L2.St} {te : TE} {sl : Nat} {vs : List Nat} {Qd : VK} {J : It} {n : Nat} {G : Hp → Prop} {Y : Nat → Hp → V → Hp → Prop}
theorem lc_pot0 {α : Type} (f : α → PyData) (Xp : Nat → V → (Addr → Prop) → Hp → Prop) (Good : Nat → α → Prop) (hS : S p) (kn : Kn S H1) (hp : PotAt H1 p) (w : Walk J n G Y) (hG : ∀ H', SameBut p H1 H' → G H') (hn : n ≤ 1000) (hw : ∀ x, wipe ((wipe σ vs).set sl (some x)) vs = wipe σ vs)
    (hY : ∀ D i H x H', H1 D = none → i < n → SameBut p H1 H → Y i H x H' → H' = H ∧ Xp i x (plus S D) H)
    (body : ∀ j x H S', j < n → SameBut p H1 H → PotAt H p → Kn S' H → S' p → Xp j x S' H → ∀ Q : VK, (∀ y H' t, SameBut p H H' → PotAt H' p → Good j t → Dp K (off S' H') y (f t) → Q y H') → te ((wipe σ vs).set sl (some x)) H Q)
    (done : ∀ D H (ys : List V) (ts : List α), SameBut p H1 H → PotAt H p → ts.length = n → (∀ j t, ts[j]? = some t → Good j t) → H D = some (.lst ys) → Dp K (off S H) (.ref D) (.list (ts.map f)) → Qd (.ref D) H) :
    ∀ D, H1 D = none → ∃ W : Nat → Nat → Hp → Prop, (∃ m, W 0 m (upd H1 D (.lst []))) ∧ ∀ i m H, W i m H →
      (J.stop i H ∧ Qd (.ref D) H) ∨ (J.go i H ∧ ∃ Nx : Hp → Prop, (∀ H', Nx H' → ∃ m', m' < m ∧ W (i + 1) m' H') ∧ ∀ x H', J.yld i H x H' → gName sl x (wipe σ vs) H' fun σ2 H2 => wipe σ2 vs = wipe σ vs ∧ tYes σ2 H2 fun b H3 =>
        if b = true then te σ2 H3 fun y H4 => ∃ acc, H4 D = some (.lst acc) ∧ acc.length < sizeLine ∧ Nx (upd H4 D (.lst (acc ++ [y]))) else Nx H3) := by
  intro D hD
  have Dp' : D ≠ p := fun e => by subst e; exact hp.some hD
  refine lc_it (Qd := Qd (.ref D)) w (fun i H' => ∃ (ys : List V) (ts : List α), ts.length = i ∧ (∀ j t, ts[j]? = some t → Good j t) ∧ DpAll K (off (plus S D) H') ys (ts.map f) ∧ SameBut p H1 H' ∧ PotAt H' p ∧ H' D = some (.lst ys)) ⟨[], [], rfl, fun j t h => by simp at h, .nil, sbut (same_new hD), hp.same (same_new hD), upd_same⟩ (fun i H _ ⟨_, _, _, _, _, s, _⟩ => hG H s) ?_ ?_
  · rintro i x H H' hi ⟨ys, ts, hl, good, da, sb, pot, hd⟩ y
    obtain ⟨rfl, xp⟩ := hY D i H x H' hD hi sb y
    have knH : Kn (plus S D) H' := (kn_bt kn sb pot.some).plus (some_ne hd)
    refine ⟨hw x, t_yes (body i x H' (plus S D) hi sb pot knH (.inl hS) xp _ fun z H3 t s3 pot3 gt dz => ?_)⟩
    have hd3 := s3 _ _ Dp' hd
    have hl2 := dpa_len da
    rw [List.length_map] at hl2
    refine ⟨ys, hd3, Nat.lt_of_le_of_lt (show ys.length ≤ 100000 by omega) (by decide), ys ++ [z], ts ++ [t], by simp [hl], ?_, ?_, ?_, ?_, upd_same⟩
    · intro j u hj
      by_cases c : j < ts.length
      · rw [List.getElem?_append_left c] at hj
        exact good j u hj
      · rw [List.getElem?_append_right (by omega)] at hj
        have e : j - ts.length = 0 := by
          have := (List.getElem?_eq_some_iff.mp hj).1
          simpa using this
        rw [e] at hj
        cases hj
        rw [show j = i by omega]; exact gt
    · rw [off_mut (show plus S D D from .inr rfl), List.map_append]
      exact dpa_app (dpa_same (off_bt (.inl hS) s3) _ _ da) (.cons dz .nil)
    · exact fun b o n h => by rw [upd_ne (ne_of_none h hD)]; exact s3 b o n (sb b o n h)
    · obtain ⟨x, y, h, hy⟩ := pot3
      exact ⟨x, y, by rw [upd_ne (Ne.symm Dp')]; exact h, hy⟩
  · rintro H ⟨ys, ts, hl, good, da, sb, pot, hd⟩
    exact done D H ys ts sb pot hl good hd (dp_lst (kn.new hD) hd (dpa_same off_fin _ _ da))
end
theorem lc_pot {α : Type} (f : α → PyData) {K : PySem.W.Frag} {S : Addr → Prop} {p : Addr} {H : Hp} {σ : L2.St} {t te : TE} {sl : Nat} {vs : List Nat} {Q : VK} (Pd : List PyData → Prop) (Good : PyData → α → Prop) (hS : S p) (kn : Kn S H)
    (hev : ∀ Q : VK, (∀ u H1 ds, SameBut p H H1 → PotAt H1 p → Pd ds → Dp K (off S H1) u (.list ds) → Q u H1) → t σ H Q) (hn : ∀ ds, Pd ds → ds.length ≤ 1000) (hw : ∀ x, wipe ((wipe σ vs).set sl (some x)) vs = wipe σ vs)
    (body : ∀ x d H1 S', SameBut p H H1 → PotAt H1 p → Kn S' H1 → S' p → Dp K (off S' H1) x d → (∃ ds, Pd ds ∧ d ∈ ds) → ∀ Q : VK, (∀ y H' t, SameBut p H1 H' → PotAt H' p → Good d t → Dp K (off S' H') y (f t) → Q y H') → te ((wipe σ vs).set sl (some x)) H1 Q)
    (done : ∀ D H1 (ds : List PyData) (ts : List α), SameBut p H H1 → PotAt H1 p → Pd ds → ts.length = ds.length → (∀ (j : Nat) d t, ds[j]? = some d → ts[j]? = some t → Good d t) → Dp K (off S H1) (.ref D) (.list (ts.map f)) → Q (.ref D) H1) :
    tLc (fun σ H R => iList K t σ H R ∨ iTup K t σ H R) (gName sl) tYes te vs σ H Q := by
  refine .inl (hev _ fun u H1 ds s1 pot pd du => ?_)
  obtain ⟨ra, xs, rfl, hsq, ha⟩ := list_at du
  have ln := dpa_len ha
  have kn1 := kn_bt kn s1 pot.some
  refine ⟨ra, rfl, ⟨xs, off_sub.seq hsq⟩, ?_⟩
  refine lc_pot0 f (K := K) (n := xs.length) (G := fun H' => SqL K H' ra xs) (Y := YAt xs) (fun i x S' H' => ∃ d, ds[i]? = some d ∧ Dp K (off S' H') x d) (fun j t => ∃ d, ds[j]? = some d ∧ Good d t) hS kn1 pot walk_list (fun H' sb => (off_keep hS sb).seq hsq) (by rw [ln]; exact hn ds pd) hw (fun D i H2 x H3 hD hi sb y => ⟨y.1, ?_⟩) (fun j x H2 S' hj sb pot2 kn2 hS' xp Q q => ?_) (fun D H2 ys ts sb pot2 hl good hd hD => ?_)
  · obtain ⟨d, dj, dx⟩ := dpa_at ha y.2
    exact ⟨d, dj, dp_same (off_plusB hS hD sb) _ _ dx⟩
  · obtain ⟨d, dj, dx⟩ := xp
    exact body x d H2 S' (sb_trans s1 sb) pot2 kn2 hS' dx ⟨ds, pd, List.mem_of_getElem? dj⟩ Q fun y H' t s' pt g dy => q y H' t s' pt ⟨d, dj, g⟩ dy
  · refine done D H2 ds ts (sb_trans s1 sb) pot2 pd (by rw [hl, ln]) (fun j d t hj ht => ?_) hD
    obtain ⟨d', hd', g⟩ := good j t ht
    rw [hj] at hd'; cases hd'; exact g
theorem r_rng {ta : TA} {σ : L2.St} {H : Hp} {R : It → Hp → Prop} (h : ta σ H fun vs H1 => ∃ j : Int, vs = [.int j] ∧ -(2 ^ 62) ≤ j ∧ j < 2 ^ 62 ∧ R (Itr 0 j.toNat) H1) : iRng1 ta σ H R := h
theorem lc_potR {α : Type} (f : α → PyData) {K : PySem.W.Frag} {S : Addr → Prop} {p : Addr} {H : Hp} {σ : L2.St} {ta : TA} {te : TE} {sl : Nat} {vs : List Nat} {Q : VK} (Pn : Nat → Prop) (Xp : V → (Addr → Prop) → Hp → Prop) (Good : α → Prop) (hS : S p) (kn : Kn S H)
    (hev : ∀ q : List V → Hp → Prop, (∀ H1 (n : Nat), SameBut p H H1 → PotAt H1 p → Pn n → q [.int (n : Nat)] H1) → ta σ H q) (hn : ∀ n, Pn n → n ≤ 1000) (hw : ∀ x, wipe ((wipe σ vs).set sl (some x)) vs = wipe σ vs)
    (hX : ∀ D H1 x, H D = none → SameBut p H H1 → Xp x (plus S D) H1)
    (body : ∀ x H1 S', SameBut p H H1 → PotAt H1 p → Kn S' H1 → S' p → Xp x S' H1 → ∀ Q : VK, (∀ y H' t, SameBut p H1 H' → PotAt H' p → Good t → Dp K (off S' H') y (f t) → Q y H') → te ((wipe σ vs).set sl (some x)) H1 Q)
    (done : ∀ D H1 (n : Nat) (ts : List α), SameBut p H H1 → PotAt H1 p → Pn n → ts.length = n → (∀ t ∈ ts, Good t) → Dp K (off S H1) (.ref D) (.list (ts.map f)) → Q (.ref D) H1) :
    tLc (iRng1 ta) (gName sl) tYes te vs σ H Q := by
  refine hev _ fun H1 n s1 pot pn => ⟨(n : Nat), rfl, by have := hn n pn; omega, by have := hn n pn; omega, ?_⟩
  have kn1 := kn_bt kn s1 pot.some
  refine lc_pot0 f (K := K) (n := n) (G := fun _ => True) (Y := YFn fun i => .int (0 + i)) (fun i x S' H' => Xp x S' H') (fun j t => Good t) hS kn1 pot walk_range (fun _ _ => trivial) (hn n pn) hw (fun D i H2 x H3 hD hi sb y => ⟨y.1, ?_⟩) (fun j x H2 S' hj sb pot2 kn2 hS' xp Q q => body x H2 S' (sb_trans s1 sb) pot2 kn2 hS' xp Q q) (fun D H2 ys ts sb pot2 hl good hd hD => ?_)
  · exact hX D H2 x (by
      by_cases e : D = p
      · subst e; exact (pot.some hD).elim
      · cases h : H D with
        | none => rfl
        | some o => rw [s1 D o e h] at hD; cases hD) (sb_trans s1 sb)
  · refine done D H2 n ts (sb_trans s1 sb) pot2 pn hl (fun t ht => ?_) hD
    obtain ⟨j, hj⟩ := List.mem_iff_getElem?.mp ht
    exact good j t hj
end K31

set_option maxRecDepth 100000
set_option maxHeartbeats 4000000
namespace K31
open PySem PySem.Spec PyProof.Rows L2 Kh
/-- what is put together of values, two by two -/
structure Grp (d : PyData) : Prop where
  can : d.canLay0 = true
  dep : d.depth ≤ (leafs d).length
  sz : msz d + 1 ≤ 2 * (leafs d).length
  dp : mdp d ≤ (leafs d).length
  pos : 1 ≤ (leafs d).length
theorem grp_nD (n : Nat) : Grp (nD n) where
  can := (shd_int _).can
  dep := by unfold nD; rw [PyData.depth]; exact Nat.zero_le _
  sz := by rw [msz_nD, leafs_nD]; simp
  dp := by rw [mdp_nD]; exact Nat.zero_le _
  pos := by rw [leafs_nD]; simp
theorem grp_pair {a b : PyData} (ha : Grp a) (hb : Grp b) : Grp (p2 a b) where
  can := by rw [PyData.canLay0, PyData.canLayAll0, PyData.canLayAll0, PyData.canLayAll0, ha.can, hb.can]; rfl
  dep := by
    rw [leafs_pair, List.length_append, PyData.depth, PyData.depthAll, PyData.depthAll, PyData.depthAll]
    have h1 := ha.dep; have h2 := hb.dep; have h3 := ha.pos; have h4 := hb.pos
    omega
  sz := by
    rw [leafs_pair, List.length_append, msz_pair]
    have h1 := ha.sz; have h2 := hb.sz; have h3 := ha.pos; have h4 := hb.pos
    omega
  dp := by
    rw [leafs_pair, List.length_append, mdp_pair]
    have h1 := ha.dp; have h2 := hb.dp; have h3 := ha.pos; have h4 := hb.pos
    omega
  pos := by rw [leafs_pair, List.length_append]; have h3 := ha.pos; omega
theorem flat_len {ds : List PyData} (h : ∀ e ∈ ds, Grp e) : ds.length ≤ (ds.flatMap leafs).length := by
  induction ds with
  | nil => exact Nat.zero_le _
  | cons d ds ih =>
    have h1 := (h d List.mem_cons_self).pos
    have h2 := ih fun e he => h e (List.mem_cons_of_mem _ he)
    rw [List.flatMap_cons, List.length_append, List.length_cons]; omega
theorem split_two {α : Type} {l : List α} {i : Nat} {x y : α} (hx : l[i]? = some x) (hy : l[i + 1]? = some y) : l = l.take i ++ ([x, y] ++ l.drop (i + 2)) := by
  have hi := (List.getElem?_eq_some_iff.mp hy).1
  have e1 : l.drop i = x :: l.drop (i + 1) := by
    rw [List.drop_eq_getElem_cons (by omega)]
    congr 1
    have := List.getElem?_eq_some_iff.mp hx
    exact this.2
  have e2 : l.drop (i + 1) = y :: l.drop (i + 2) := by
    rw [List.drop_eq_getElem_cons hi]
    congr 1
    exact (List.getElem?_eq_some_iff.mp hy).2
  calc l = l.take i ++ l.drop i := (List.take_append_drop i l).symm
    _ = _ := by rw [e1, e2]; rfl
section
variable {P : Program} {w : World} {K : PySem.W.Frag} {mg : Str → Option Value} {base : Heap} {a : Nat → Addr} {fd : Nat → FuncData} {C : Addr} {tk : Nat → Tok}
theorem sl_dropD {S : Addr → Prop} {H : Hp} {x : V} {ds : List PyData} {m : Nat} {Q : VK} (kn : Kn S H) (hx : Dp K (off S H) x (.list ds)) (hm : m ≤ ds.length)
    (q : ∀ u H', Same H H' → Dp K (off S H') u (.list (ds.drop m)) → Q u H') : rSlL K x (some (m : Nat)) none H Q :=
  sl_drop (f := id) kn (by rw [List.map_id]; exact hx) hm fun u H' s d => q u H' s (by rw [List.map_id] at d; exact d)
theorem sl_takeD {S : Addr → Prop} {H : Hp} {x : V} {ds : List PyData} {m : Nat} {Q : VK} (kn : Kn S H) (hx : Dp K (off S H) x (.list ds)) (hm : m ≤ ds.length)
    (q : ∀ u H', Same H H' → Dp K (off S H') u (.list (ds.take m)) → Q u H') : rSlL K x none (some (m : Nat)) H Q :=
  sl_take (f := id) kn (by rw [List.map_id]; exact hx) hm fun u H' s d => q u H' s (by rw [List.map_id] at d; exact d)
def spGroup (K : PySem.W.Frag) : Sp := fun vs H Q _ => ∃ (S : Addr → Prop) (p : Addr) (v : V) (ns : List Nat), vs = [.ref p, v] ∧ Kn S H ∧ S p ∧ PotAt H p ∧ Dp K (off S H) v (nL ns) ∧ 1 ≤ ns.length ∧ ns.length ≤ 20 ∧
  ∀ u H' d, SameBut p H H' → PotAt H' p → Grp d → leafs d = ns.map nD → Dp K (off S H') u d → Q u H'
theorem ok__law_grouped (T : Txt K mg a fd C tk) : FnOk P w K mg base CX0 2 (a 24) (fd 24) ["_law_pot_here", "_law_values_here"] (spGroup K) := by
  have G__law_draw := ok__law_draw (P := P) (w := w) (base := base) T
  refine T.F__law_grouped.ok sc__law_grouped (fun vs H Q E h => by obtain ⟨_, _, _, _, rfl, _⟩ := h; rfl) (fun cdv A outer s H vs Q E hr h => ?_)
  obtain ⟨S, p, v, ns, rfl, kn, hS, hp, hd, n1, n20, q⟩ := h
  replace hd : Dp K (off S H) v (.list (ns.map nD)) := hd
  refine ⟨_, (pss_cons (ps_set (i := 2) sc__law_grouped.nd rfl (Or.inl rfl) (pe_callTy (k_list (K := K)) (by rfl) T.z_list (by decide +kernel) (pa_cons (pv 1) pa_nil)))
      (pss_cons (ps_while PassesOwn.never (pt_cmpR op_gt (pe_callB (k_len (K := K)) (by rfl) T.z_len (by decide +kernel) (pa_cons (pv 2) pa_nil)) pe_int (nomark _))
        (pss_cons (ps_set (i := 3) sc__law_grouped.nd rfl (Or.inl rfl) (pe_call G__law_draw (hr.mono (by omega)) (by rfl) T.m__law_draw T.F__law_draw.kp T.b__law_draw .nil pass0 (pa_cons (pv 0) (pa_cons (pe_op op_sub (pe_callB (k_len (K := K)) (by rfl) T.z_len (by decide +kernel) (pa_cons (pv 2) pa_nil)) pe_int) pa_nil))))
        (pss_one (ps_set (i := 2) sc__law_grouped.nd rfl (Or.inl rfl) (pe_op (k_catS (K := K)) (pe_op (k_catS (K := K)) (pe_slice (k_sl (K := K)) (pv 2) po_none (po_some (pv 3))) (pe_lst (pa_cons (pe_tup (pa_cons (pe_ix (k_ix (K := K)) (pv 2) (pv 3) (fun _ _ => rfl)) (pa_cons (pe_ix (k_ix (K := K)) (pv 2) (pe_op op_add (pv 3) pe_int) (fun _ _ => rfl)) pa_nil))) pa_nil))) (pe_slice (k_sl (K := K)) (pv 2) (po_some (pe_op op_add (pv 3) pe_int)) po_none))))))
      (pss_one (ps_ret (pe_ix (k_ix (K := K)) (pv 2) pe_int (fun _ _ => rfl)))))), ?_⟩
  refine s_seq (s_set (t_cb1 (t_var rfl (list_d kn hd rfl fun L xs hL ha hl => nx_of ?_))))
  have sL := same_new (o := HO.lst xs) hL
  generalize upd H L (.lst xs) = H1 at *
  refine s_seq ⟨fun m σ H' => ∃ (u : V) (ds : List PyData) (x3 : Option V), σ = [some (.ref p), some v, some u, x3] ∧ Dp K (off S H') u (.list ds) ∧ (∀ e ∈ ds, Grp e) ∧ 1 ≤ ds.length ∧ ds.flatMap leafs = ns.map nD ∧ SameBut p H H' ∧ PotAt H' p ∧ m = ds.length,
    ⟨_, _, _, _, rfl, hl, fun e he => by obtain ⟨n, _, rfl⟩ := List.mem_map.mp he; exact grp_nD n, by rw [List.length_map]; exact n1, ?_, sbut sL, hp.same sL, rfl⟩, ?_⟩
  · rw [List.flatMap_map]
    have : ∀ l : List Nat, (l.flatMap fun n => leafs (nD n)) = l.map nD := fun l => by
      induction l with
      | nil => rfl
      | cons n l ih => rw [List.flatMap_cons, ih, leafs_nD, List.map_cons]; rfl
    exact this ns
  rintro m σ H' ⟨u, ds, x3, rfl, du, gr, d1, fl, sb, pot, rfl⟩
  have knH := kn_bt kn sb pot.some
  have lf := flat_len gr
  rw [fl, List.length_map] at lf
  refine b_test (t_op (t_cb1 (t_var rfl (len_d off_sub du rfl (t_c ⟨_, _, rfl, rfl, ⟨_, rfl, ?_⟩⟩)))))
  by_cases h1 : ds.length > 1
  · refine ifT (decide_eq_true (by omega)) ⟨fun σ' H'' => ∃ (u : V) (es : List PyData) (x3 : Option V), σ' = [some (.ref p), some v, some u, x3] ∧ Dp K (off S H'') u (.list es) ∧ (∀ e ∈ es, Grp e) ∧ 1 ≤ es.length ∧ es.flatMap leafs = ns.map nD ∧ SameBut p H H'' ∧ PotAt H'' p ∧ es.length < ds.length, ?_, ?_⟩
    · rintro σ' H'' ⟨u, es, x3, h1, h2, h3, h4, h5, h6, h7, h8⟩
      exact ⟨_, h8, u, es, x3, h1, h2, h3, h4, h5, h6, h7, rfl⟩
    have e1 : ((ds.length : Nat) : Int) - 1 = ((ds.length - 1 : Nat) : Int) := by omega
    refine s_seq (s_set (t_call2 (t_var rfl (t_op (t_cb1 (t_var rfl (len_d off_sub du rfl (t_c ⟨_, _, rfl, rfl, ?_⟩))))))))
    refine ⟨p, ds.length - 1, by rw [← e1], pot, by omega, by omega, fun i H2 hi sb2 pot2 => nx_of ?_⟩
    have o2 := off_bt hS sb2
    have kn2 := kn_bt knH sb2 pot2.some
    have du2 := dp_same o2 _ _ du
    have sb02 := sb_trans sb sb2
    have hx : ds[i]? = some ds[i] := List.getElem?_eq_getElem (by omega)
    have hy : ds[i + 1]? = some ds[i + 1] := List.getElem?_eq_getElem (by omega)
    generalize ds[i] = x at hx
    generalize ds[i + 1] = y at hy
    have spl := split_two hx hy
    refine s_set (t_op (t_op (t_sl (t_var rfl (o_none (o_some (t_var rfl ⟨_, rfl, sl_takeD (m := i) kn2 du2 (by omega) fun u1 H3 s3 g1 => ?_⟩)))))))
    refine t_lst (a_cons (t_tup (a_cons (t_op (t_var rfl (t_var rfl (ix_d (i := i) off_sub (dp_same (off_same s3) _ _ du2) rfl hx fun ux gx => a_cons (t_op (t_var rfl (t_op (t_var rfl (t_c ⟨_, _, rfl, rfl, ?_⟩))))))))))))
    show rIx K u (V.int (((i : Nat) : Int) + 1)) H3 _
    rw [show ((i : Nat) : Int) + 1 = ((i + 1 : Nat) : Int) by omega]
    refine ix_d (i := i + 1) off_sub (dp_same (off_same s3) _ _ du2) rfl hy fun uy gy => a_nil ⟨le2, fun pr hpr => a_nil ⟨le1, fun pl hpl => ?_⟩⟩
    have kn3 := kn2.same s3
    have gp := dp_newT (K := K) (ds := [x, y]) kn3 hpr (.cons gx (.cons gy .nil))
    have s4 := same_new (o := HO.tup [ux, uy]) hpr
    have gl := dp_newL (K := K) (ds := [p2 x y]) (kn3.same s4) hpl (.cons gp .nil)
    have s5 := same_new (o := HO.lst [V.ref pr]) hpl
    have s25 := (s3.trans s4).trans s5
    have g1' := dp_same (off_same (s4.trans s5)) _ _ g1
    have kn5 := (kn3.same s4).same s5
    generalize upd (upd H3 pr (.tup [ux, uy])) pl (.lst [.ref pr]) = H5 at *
    have lt : (ds.take i).length ≤ 100 := by rw [List.length_take]; omega
    refine cat_d kn5 g1' gl (by simp; omega) fun u6 H6 s6 g6 => t_sl (t_var rfl (o_some (t_op (t_var rfl (t_c ⟨_, _, rfl, rfl, ⟨((i + 2 : Nat) : Int), congrArg V.int (show ((i : Nat) : Int) + 2 = ((i + 2 : Nat) : Int) by omega), ?_⟩⟩)))))
    have du6 := dp_same (off_same (s25.trans s6)) _ _ du2
    refine o_none (sl_dropD (m := i + 2) (kn5.same s6) du6 (by omega) fun u7 H7 s7 g7 => ?_)
    refine cat_d ((kn5.same s6).same s7) (dp_same (off_same s7) _ _ g6) g7 (by simp; omega) fun u8 H8 s8 g8 => nx_of ?_
    have s28 := ((s25.trans s6).trans s7).trans s8
    have mx : x ∈ ds := List.mem_of_getElem? hx
    have my : y ∈ ds := List.mem_of_getElem? hy
    refine ⟨u8, _, _, rfl, g8, ?_, by simp; omega, ?_, sb_trans sb02 (sbut s28), pot2.same s28, by simp; omega⟩
    · intro e he
      rcases List.mem_append.mp he with he | he
      · rcases List.mem_append.mp he with he | he
        · exact gr e (List.mem_of_mem_take he)
        · rw [List.mem_singleton.mp he]; exact grp_pair (gr x mx) (gr y my)
      · exact gr e (List.mem_of_mem_drop he)
    · rw [← fl]
      conv => rhs; rw [spl]
      simp [List.flatMap_append, leafs_pair]
  · refine ifF (decide_eq_false (by omega)) (nx_of ?_)
    obtain ⟨e, rfl⟩ : ∃ e, ds = [e] := by
      match ds, d1, h1 with
      | [e], _, _ => exact ⟨e, rfl⟩
      | _ :: _ :: _, _, h => exact (h (by simp)).elim
    refine s_ret (t_op (t_var rfl (t_c (ix_d (i := 0) off_sub du rfl rfl fun z dz => q z H' e sb pot (gr e (by simp)) (by simpa using fl) dz))))
end
end K31

set_option maxRecDepth 100000
set_option maxHeartbeats 4000000
namespace K31
open PySem PySem.Spec PyProof.Rows L2 Kh
theorem perm_map {α β : Type} {f : α → β} : ∀ {es : List β} {ms : List α}, es.Perm (ms.map f) → ∃ l : List α, l.Perm ms ∧ es = l.map f
  | [], ms, h => by
    have := h.length_eq
    rw [List.length_map] at this
    exact ⟨[], by rw [List.eq_nil_of_length_eq_zero this.symm], rfl⟩
  | e :: es, ms, h => by
    have he : e ∈ ms.map f := h.mem_iff.mp List.mem_cons_self
    obtain ⟨m, hm, rfl⟩ := List.mem_map.mp he
    obtain ⟨a, b, rfl⟩ := List.append_of_mem hm
    have p1 : (a ++ m :: b).Perm (m :: (a ++ b)) := List.perm_middle
    have p2 : (f m :: es).Perm (f m :: (a ++ b).map f) := h.trans (by have := p1.map f; rwa [List.map_cons] at this)
    obtain ⟨l, pl, rfl⟩ := perm_map (List.Perm.cons_inv p2)
    exact ⟨m :: l, (pl.cons m).trans p1.symm, rfl⟩
theorem vals_of {d : PyData} {ms : List Nat} (h : leafs d = ms.map nD) : vals d = ms := by
  unfold vals
  rw [h, List.map_map]
  have : (toN ∘ nD) = id := by funext n; simp [toN, nD]
  rw [this, List.map_id]
theorem meltA_of {m : Nat} {d : PyData} {ms : List Nat} (h : leafs d = ms.map nD) (hb : ∀ n ∈ ms, n < m) : meltA m d = true := by
  unfold meltA
  rw [h]
  exact List.all_eq_true.mpr fun z hz => by
    obtain ⟨n, hn, rfl⟩ := List.mem_map.mp hz
    exact below_ok (hb n hn)
/-- a melt that is drawn -/
structure Drn (m : Nat) (d : PyData) : Prop where
  grp : Grp d
  ok : meltA m d = true
  few : (leafs d).length ≤ 6
theorem Drn.okM {m : Nat} {d : PyData} (h : Drn m d) : meltOk m d = true := by
  unfold meltOk
  rw [h.ok, decide_eq_true (Nat.le_trans h.few (by decide))]; rfl
theorem Drn.dp {m : Nat} {d : PyData} (h : Drn m d) : mdp d ≤ 6 := Nat.le_trans h.grp.dp h.few
theorem Drn.sz {m : Nat} {d : PyData} (h : Drn m d) : msz d ≤ 12 := by have := h.grp.sz; have := h.few; omega
section
variable {P : Program} {w : World} {K : PySem.W.Frag} {mg : Str → Option Value} {base : Heap} {a : Nat → Addr} {fd : Nat → FuncData} {C : Addr} {tk : Nat → Tok}
theorem r_rng1 {ta : TA} {σ : L2.St} {H : Hp} {R : It → Hp → Prop} (h : ta σ H fun vs H1 => ∃ j : Int, vs = [.int j] ∧ -(2 ^ 62) ≤ j ∧ j < 2 ^ 62 ∧ R (Itr 0 j.toNat) H1) : iRng1 ta σ H R := h
/-- mixed whole numbers -/
theorem mix_nums {S : Addr → Prop} {p : Addr} {v : V} {ns : List Nat} {H : Hp} {Q : VK} (kn : Kn S H) (hS : S p) (pot : PotAt H p) (hd : Dp K (off S H) v (nL ns)) (few : ns.length ≤ 100)
    (q : ∀ u H' ms, SameBut p H H' → PotAt H' p → ms.Perm ns → Dp K (off S H') u (nL ms) → Q u H') : spMixed K [.ref p, v] H Q E0 :=
  ⟨S, p, v, ns.map nD, rfl, kn, hS, pot, hd, fun d hd' => shd_nums d hd', by rw [List.length_map]; exact few, fun u H' es sb pt pm du => by
    obtain ⟨l, pl, rfl⟩ := perm_map pm
    exact q u H' l sb pt pl du⟩
def spTwo (K : PySem.W.Frag) : Sp := fun vs H Q _ => ∃ (S : Addr → Prop) (p : Addr) (v : V) (R : List (List Nat)), vs = [.ref p, v] ∧ Kn S H ∧ S p ∧ PotAt H p ∧ Dp K (off S H) v (nLL R) ∧ Tb R ∧
  ∀ u H' d1 d2, SameBut p H H' → PotAt H' p → Drn R.length d1 → Drn R.length d2 → (∀ n, n ∈ vals d1 ↔ n ∈ vals d2) → Dp K (off S H') u (p2 d1 d2) → Q u H'
end
end K31

set_option maxRecDepth 100000
set_option maxHeartbeats 4000000
namespace K31
open PySem PySem.Spec PyProof.Rows L2 Kh
theorem k_notInD {X : Cx} {K : PySem.W.Frag} {k : Nat} (hr : Room k X.A) (h : X.K = K := by rfl) : OpR X (compareOp .NotIn) (rNotInD K) := by subst h; exact op_notInD (by have := hr.un; omega)
theorem rng_filt (p : Nat → Bool) (i : Nat) : (List.range (i + 1)).filter p = (List.range i).filter p ++ (if p i = true then [i] else []) := by
  rw [List.range_succ, List.filter_append]
  congr 1
  cases q : p i <;> simp [q]
/-- [x for i, x in enumerate(t) if ..] -/
theorem lc_enum {K : PySem.W.Frag} {S : Addr → Prop} {H : Hp} {σ : L2.St} {ta : TA} {tt : TT} {s1 s2 : Nat} {vs : List Nat} {Q : VK} (ds : List PyData) (p : Nat → Bool) (kn : Kn S H)
    (hev : ∀ q : List V → Hp → Prop, (∀ u H1, Same H H1 → Dp K (off S H1) u (.list ds) → q [u] H1) → ta σ H q) (hn : ds.length ≤ 1000)
    (hw : ∀ x y, wipe (((wipe σ vs).set s1 (some x)).set s2 (some y)) vs = wipe σ vs) (hg : ∀ x y, (((wipe σ vs).set s1 (some x)).set s2 (some y))[s2]? = some (some y))
    (test : ∀ (i : Nat) d x H1 S', ds[i]? = some d → Same H H1 → Kn S' H1 → Dp K (off S' H1) x d → (∀ a, S a → S' a) → Same (off S H) (off S' H1) → ∀ Q : Bool → Hp → Prop, (∀ H', Same H1 H' → Q (p i) H') → tt (((wipe σ vs).set s1 (some (.int (i : Nat)))).set s2 (some x)) H1 Q)
    (done : ∀ D H1, H D = none → Same H H1 → Dp K (off S H1) (.ref D) (.list (((List.range ds.length).filter p).map fun i => ds.getD i .none)) → Q (.ref D) H1) :
    tLc (iEnum K ta) (gTup K 2 (gCons (gName s1) (gCons (gName s2) gNil))) tt (tVar s2) vs σ H Q := by
  refine hev _ fun u H1 s du => ?_
  obtain ⟨ra, xs, rfl, hsq, ha⟩ := list_at du
  have ln := dpa_len ha
  have kn1 := kn.same s
  refine ⟨ra, xs, rfl, off_sub.seq hsq, fun D hD => ?_⟩
  refine wlk (walk_enum (K := K) (a := ra) (xs := xs)) (fun x H' Nx => gTup K 2 (gCons (gName s1) (gCons (gName s2) gNil)) x (wipe σ vs) H' fun σ2 H2 => wipe σ2 vs = wipe σ vs ∧ tt σ2 H2 fun b H3 => if b = true then tVar s2 σ2 H3 fun y H4 => ∃ acc, H4 D = some (.lst acc) ∧ acc.length < sizeLine ∧ Nx (upd H4 D (.lst (acc ++ [y]))) else Nx H3)
    (fun i H' => ∃ ys, DpAll K (off (plus S D) H') ys (((List.range i).filter p).map fun i => ds.getD i .none) ∧ Same H1 H' ∧ H' D = some (.lst ys)) ⟨[], .nil, same_new hD, upd_same⟩ (fun i H' _ ⟨_, _, z, _⟩ => (off_sub.trans z).seq hsq) ?_ ?_
  · rintro i x H2 H3 hi ⟨ys, py, z, hd⟩ ⟨T0, x1, y1, rfl, hT, rfl, hx, hy⟩
    cases hx
    obtain ⟨d, dj, dy⟩ := dpa_at ha hy
    have sT := same_new (o := HO.tup [V.int ((i : Nat) : Int), y1]) hT
    have hd3 := sT _ _ hd
    have ht3 : SqT K (upd H2 T0 (.tup [V.int ((i : Nat) : Int), y1])) T0 [V.int ((i : Nat) : Int), y1] := sqT upd_same
    generalize upd H2 T0 (.tup [V.int ((i : Nat) : Int), y1]) = H3 at *
    have z3 := z.trans sT
    refine ⟨T0, [_, y1], rfl, ht3, rfl, _, [y1], rfl, y1, [], rfl, rfl, hw _ _, ?_⟩
    refine test i d y1 H3 (plus S D) dj (s.trans z3) ((kn1.same z3).plus (some_ne hd3)) (dp_same (off_plus hD z3) _ _ dy) (fun _ h => .inl h) ((off_same s).trans (off_plus hD z3)) _ fun H4 s4 => ?_
    have hd4 := s4 _ _ hd3
    have z4 := z3.trans s4
    have ey : ds.getD i .none = d := by rw [List.getD_eq_getElem?_getD, dj]; rfl
    have py4 := dpa_same (off_same (sT.trans s4)) _ _ py
    have lp := dpa_len py
    have lf := List.length_filter_le p (List.range i)
    rw [List.length_map] at lp
    rw [List.length_range] at lf
    cases hp : p i with
    | false =>
      refine iteF ⟨ys, ?_, z4, hd4⟩
      rw [rng_filt, hp]
      simpa using py4
    | true =>
      refine iteT (t_var (hg _ _) ⟨ys, hd4, Nat.lt_of_le_of_lt (show ys.length ≤ 1000 by omega) (by decide), ys ++ [y1], ?_, smut z4 hD, upd_same⟩)
      rw [off_mut (show plus S D D from .inr rfl), rng_filt, hp, List.map_append]
      refine dpa_app py4 (.cons ?_ .nil)
      show Dp K _ y1 (ds.getD i .none)
      rw [ey]
      exact dp_same (off_plus hD z4) _ _ dy
  · rintro H2 ⟨ys, py, z, hd⟩
    rw [ln] at py
    exact done D H2 (s.free hD) (s.trans z) (dp_lst (kn1.new hD) hd (dpa_same off_fin _ _ py))
/-! lots -/
/-- a lot of spots below 4, told rising -/
structure Lt (l : List Nat) : Prop where
  rise : l.Pairwise (· < ·)
  four : ∀ n ∈ l, n < 4
theorem Lt.eight {l : List Nat} (h : Lt l) : ∀ n ∈ l, n < 8 := fun n hn => by have := h.four n hn; omega
theorem rise_one : ∀ {l m : List Nat}, l.Pairwise (· < ·) → m.Pairwise (· < ·) → (∀ n, n ∈ l ↔ n ∈ m) → l = m
  | [], m, _, _, h => by
    cases m with
    | nil => rfl
    | cons x m => exact absurd ((h x).mpr List.mem_cons_self) (by simp)
  | x :: l, [], _, _, h => absurd ((h x).mp List.mem_cons_self) (by simp)
  | x :: l, y :: m, h1, h2, h => by
    have p1 := List.pairwise_cons.mp h1
    have p2 := List.pairwise_cons.mp h2
    have e : x = y := by
      rcases List.mem_cons.mp ((h x).mp List.mem_cons_self) with e | hx
      · exact e
      · rcases List.mem_cons.mp ((h y).mpr List.mem_cons_self) with e | hy
        · exact e.symm
        · have := p1.1 y hy; have := p2.1 x hx; omega
    subst e
    rw [rise_one p1.2 p2.2 fun n => by
      constructor
      · intro hn
        rcases List.mem_cons.mp ((h n).mp (List.mem_cons_of_mem _ hn)) with e | q
        · have := p1.1 n hn; omega
        · exact q
      · intro hn
        rcases List.mem_cons.mp ((h n).mpr (List.mem_cons_of_mem _ hn)) with e | q
        · have := p2.1 n hn; omega
        · exact q]
def un (l m : List Nat) : List Nat := uq (l ++ m)
theorem mem_un {l m : List Nat} (hl : ∀ n ∈ l, n < 8) (hm : ∀ n ∈ m, n < 8) {n : Nat} : n ∈ un l m ↔ n ∈ l ∨ n ∈ m := by
  unfold un
  rw [uq_mem fun n hn => (List.mem_append.mp hn).elim (hl n) (hm n), List.mem_append]
theorem lt_uq {l : List Nat} (h : ∀ n ∈ l, n < 4) : Lt (uq l) := ⟨uq_rise l, fun n hn => h n ((uq_mem fun n hn => by have := h n hn; omega).mp hn)⟩
theorem lt_un {l m : List Nat} (hl : Lt l) (hm : Lt m) : Lt (un l m) := lt_uq fun n hn => (List.mem_append.mp hn).elim (hl.four n) (hm.four n)
theorem lt_eq {l m : List Nat} (hl : Lt l) (hm : Lt m) (h : ∀ n, n ∈ l ↔ n ∈ m) : l = m := rise_one hl.rise hm.rise h
/-- lots of which any two put together are one of them -/
structure Lots (L : List (List Nat)) : Prop where
  lt : ∀ l ∈ L, Lt l
  cl : ∀ l ∈ L, ∀ m ∈ L, un l m ∈ L
  few : L.length ≤ 7
def more (L : List (List Nat)) (f : List Nat) : List (List Nat) := f :: L.map fun l => un l f
theorem more_lt {L : List (List Nat)} {f : List Nat} (h : Lots L) (hf : Lt f) : ∀ l ∈ more L f, Lt l := fun l hl => by
  rcases List.mem_cons.mp hl with rfl | hl
  · exact hf
  · obtain ⟨m, hm, rfl⟩ := List.mem_map.mp hl
    exact lt_un (h.lt m hm) hf
theorem lots_more {L M : List (List Nat)} {f : List Nat} (h : Lots L) (hf : Lt f) (hM : ∀ l, l ∈ M ↔ l ∈ L ∨ l ∈ more L f) (l7 : M.length ≤ 7) : Lots M where
  lt := fun l hl => ((hM l).mp hl).elim (h.lt l) (more_lt h hf l)
  few := l7
  cl := by
    have inM : ∀ l, Lt l → (∃ w, (w ∈ L ∨ w ∈ more L f) ∧ Lt w ∧ ∀ n, n ∈ w ↔ n ∈ l) → l ∈ M := fun l hl ⟨w, hw, lw, e⟩ => by
      rw [← lt_eq lw hl e]; exact (hM w).mpr hw
    have f8 := hf.eight
    intro l hl m hm
    have ll : Lt l := ((hM l).mp hl).elim (h.lt l) (more_lt h hf l)
    have lm : Lt m := ((hM m).mp hm).elim (h.lt m) (more_lt h hf m)
    refine inM _ (lt_un ll lm) ?_
    have eu : ∀ {n}, n ∈ un l m ↔ n ∈ l ∨ n ∈ m := mem_un ll.eight lm.eight
    have mf : ∀ z ∈ L, un z f ∈ more L f := fun z hz => List.mem_cons_of_mem _ (List.mem_map.mpr ⟨z, hz, rfl⟩)
    have ez : ∀ z ∈ L, ∀ {n}, n ∈ un z f ↔ n ∈ z ∨ n ∈ f := fun z hz => mem_un (h.lt z hz).eight f8
    rcases (hM l).mp hl with al | bl
    · rcases (hM m).mp hm with am | bm
      · exact ⟨un l m, .inl (h.cl l al m am), lt_un ll lm, fun n => Iff.rfl⟩
      · rcases List.mem_cons.mp bm with rfl | bm
        · exact ⟨un l m, .inr (mf l al), lt_un ll lm, fun n => Iff.rfl⟩
        · obtain ⟨z, hz, rfl⟩ := List.mem_map.mp bm
          have hc := h.cl l al z hz
          refine ⟨un (un l z) f, .inr (mf _ hc), lt_un (h.lt _ hc) hf, fun n => ?_⟩
          rw [ez _ hc, eu, ez z hz, mem_un ll.eight (h.lt z hz).eight, or_assoc]
    · rcases List.mem_cons.mp bl with rfl | bl
      · rcases (hM m).mp hm with am | bm
        · refine ⟨un m l, .inr (mf m am), lt_un lm ll, fun n => ?_⟩
          rw [ez m am, eu, or_comm]
        · rcases List.mem_cons.mp bm with rfl | bm
          · exact ⟨m, .inr List.mem_cons_self, lm, fun n => by rw [eu, or_self]⟩
          · obtain ⟨z, hz, rfl⟩ := List.mem_map.mp bm
            refine ⟨un z l, .inr (mf z hz), lt_un (h.lt z hz) hf, fun n => ?_⟩
            rw [eu, ez z hz]
            exact ⟨fun q => .inr q, fun q => q.elim (fun q => .inr q) id⟩
      · obtain ⟨y, hy, rfl⟩ := List.mem_map.mp bl
        rcases (hM m).mp hm with am | bm
        · have hc := h.cl y hy m am
          refine ⟨un (un y m) f, .inr (mf _ hc), lt_un (h.lt _ hc) hf, fun n => ?_⟩
          rw [ez _ hc, eu, ez y hy, mem_un (h.lt y hy).eight lm.eight]
          constructor
          · rintro ((q | q) | q)
            · exact .inl (.inl q)
            · exact .inr q
            · exact .inl (.inr q)
          · rintro ((q | q) | q)
            · exact .inl (.inl q)
            · exact .inr q
            · exact .inl (.inr q)
        · rcases List.mem_cons.mp bm with rfl | bm
          · refine ⟨un y m, .inr (mf y hy), lt_un (h.lt y hy) hf, fun n => ?_⟩
            rw [eu, ez y hy]
            exact ⟨fun q => .inl q, fun q => q.elim id fun q => .inr q⟩
          · obtain ⟨z, hz, rfl⟩ := List.mem_map.mp bm
            have hc := h.cl y hy z hz
            refine ⟨un (un y z) f, .inr (mf _ hc), lt_un (h.lt _ hc) hf, fun n => ?_⟩
            rw [ez _ hc, eu, ez y hy, ez z hz, mem_un (h.lt y hy).eight (h.lt z hz).eight]
            constructor
            · rintro ((q | q) | q)
              · exact .inl (.inl q)
              · exact .inr (.inl q)
              · exact .inl (.inr q)
            · rintro ((q | q) | (q | q))
              · exact .inl (.inl q)
              · exact .inr q
              · exact .inl (.inr q)
              · exact .inr q
end K31

set_option maxRecDepth 100000
set_option maxHeartbeats 4000000
namespace K31
open PySem PySem.Spec PyProof.Rows L2 Kh
theorem any_nL {l : List Nat} : ∀ L : List (List Nat), ((L.map nL).any fun z => PyData.eqv z (nL l)) = decide (l ∈ L)
  | [] => rfl
  | m :: L => by
    rw [List.map_cons, List.any_cons, any_nL L, eqv_nums]
    by_cases h : m = l
    · subst h; simp
    · have : ¬ l = m := fun e => h e.symm
      by_cases h2 : l ∈ L <;> simp [h, this, h2]
theorem first_at {l : List Nat} : ∀ {M : List (List Nat)}, l ∈ M → ∃ i, i < M.length ∧ M[i]? = some l ∧ l ∉ M.take i
  | [], h => by cases h
  | x :: M, h => by
    by_cases e : l = x
    · subst e; exact ⟨0, by simp, rfl, by simp⟩
    · rcases List.mem_cons.mp h with h | h
      · exact (e h).elim
      · obtain ⟨i, h1, h2, h3⟩ := first_at h
        refine ⟨i + 1, by simp; omega, by simpa using h2, ?_⟩
        rw [List.take_succ_cons]
        exact fun hm => (List.mem_cons.mp hm).elim e h3
/-- which of the further ones are taken -/
def fits (L M : List (List Nat)) (i : Nat) : Bool := !decide (M.getD i [] ∈ L) && !decide (M.getD i [] ∈ M.take i)
def grown (L M : List (List Nat)) : List (List Nat) := L ++ ((List.range M.length).filter (fits L M)).map fun i => M.getD i []
theorem getD_at {M : List (List Nat)} {i : Nat} {l : List Nat} (h : M[i]? = some l) : M.getD i [] = l := by rw [List.getD_eq_getElem?_getD, h]; rfl
theorem mem_grown {L M : List (List Nat)} {l : List Nat} : l ∈ grown L M ↔ l ∈ L ∨ l ∈ M := by
  unfold grown
  rw [List.mem_append]
  constructor
  · rintro (h | h)
    · exact .inl h
    · obtain ⟨i, hi, rfl⟩ := List.mem_map.mp h
      have := List.mem_range.mp (List.mem_filter.mp hi).1
      have e : M[i]? = some M[i] := List.getElem?_eq_getElem this
      rw [getD_at e]; exact .inr (List.getElem_mem _)
  · rintro (h | h)
    · exact .inl h
    · by_cases hl : l ∈ L
      · exact .inl hl
      · obtain ⟨i, h1, h2, h3⟩ := first_at h
        refine .inr (List.mem_map.mpr ⟨i, List.mem_filter.mpr ⟨List.mem_range.mpr h1, ?_⟩, getD_at h2⟩)
        unfold fits
        rw [getD_at h2, decide_eq_false hl, decide_eq_false h3]; rfl
theorem len_grown (L M : List (List Nat)) : (grown L M).length ≤ L.length + M.length := by
  unfold grown
  rw [List.length_append, List.length_map]
  have := List.length_filter_le (fits L M) (List.range M.length)
  rw [List.length_range] at this
  omega
theorem grown_data (L M : List (List Nat)) : (((List.range (M.map nL).length).filter (fits L M)).map fun i => (M.map nL).getD i .none) = (((List.range M.length).filter (fits L M)).map fun i => M.getD i []).map nL := by
  rw [List.length_map, List.map_map]
  refine List.map_congr_left fun i hi => ?_
  have := List.mem_range.mp (List.mem_filter.mp hi).1
  have e : M[i]? = some M[i] := List.getElem?_eq_getElem this
  show (M.map nL).getD i .none = nL (M.getD i [])
  rw [getD_at e, List.getD_eq_getElem?_getD, List.getElem?_map, e]; rfl
theorem shaped_nLL (L : List (List Nat)) : SeqAt.shaped (.list (L.map nL)) = true := shaped_list fun d hd => by
  obtain ⟨l, _, rfl⟩ := List.mem_map.mp hd
  exact shd_nL l
theorem lt_len {l : List Nat} (h : Lt l) : l.length ≤ 4 := by
  have e : l = (List.range 4).filter fun n => decide (n ∈ l) := rise_one h.rise (List.Pairwise.filter _ List.pairwise_lt_range) fun n => by
    rw [List.mem_filter, List.mem_range, decide_eq_true_iff]
    exact ⟨fun q => ⟨h.four n q, q⟩, fun q => q.2⟩
  rw [e]
  have := List.length_filter_le (fun n => decide (n ∈ l)) (List.range 4)
  rwa [List.length_range] at this
section
variable {P : Program} {w : World} {K : PySem.W.Frag} {mg : Str → Option Value} {base : Heap} {a : Nat → Addr} {fd : Nat → FuncData} {C : Addr} {tk : Nat → Tok}
def spLots (K : PySem.W.Frag) : Sp := fun vs H Q _ => ∃ (S : Addr → Prop) (p : Addr), vs = [.ref p] ∧ Kn S H ∧ S p ∧ PotAt H p ∧
  ∀ u H' L, SameBut p H H' → PotAt H' p → Lots L → 1 ≤ L.length → Dp K (off S H') u (nLL L) → Q u H'
theorem ok__law_lots (T : Txt K mg a fd C tk) : FnOk P w K mg base CX0 3 (a 20) (fd 20) ["_law_pot_here"] (spLots K) := by
  have G__law_draw := ok__law_draw (P := P) (w := w) (base := base) T
  have G__law_mixed := ok__law_mixed (P := P) (w := w) (base := base) T
  refine T.F__law_lots.ok sc__law_lots (fun vs H Q E h => by obtain ⟨_, _, rfl, _⟩ := h; rfl) (fun cdv A outer s H vs Q E hr h => ?_)
  obtain ⟨S, p, rfl, kn, hS, pot, q⟩ := h
  refine ⟨_, (pss_cons (ps_set (i := 1) sc__law_lots.nd rfl (Or.inr rfl) (pe_lst pa_nil))
      (pss_cons (ps_for PassesOwn.never rfl (pi_range1 (by rfl) T.z_range (pa_cons (pe_op op_add pe_int (pe_call G__law_draw (hr.mono (by omega)) (by rfl) T.m__law_draw T.F__law_draw.kp T.b__law_draw .nil pass0 (pa_cons (pv 0) (pa_cons pe_int pa_nil)))) pa_nil)) (pg_name (i := 2) sc__law_lots.nd rfl (Or.inl rfl))
        (pss_cons (ps_set (i := 3) sc__law_lots.nd rfl (Or.inr rfl) (pe_callB (k_sset (w := w) rfl) (by rfl) T.z_sorted (by decide +kernel) (pa_cons (pe_callTy (k_setW (K := K) (w := w) rfl) (by rfl) T.z_set (by decide +kernel) (pa_cons (pe_lc (own := [("_law_more", 4)]) (g := gName 4) (tt := tYes) rfl sc__law_lots.nd (pi_range1 (by rfl) T.z_range (pa_cons (pe_call G__law_draw (hr.mono (by omega)) (by rfl) T.m__law_draw T.F__law_draw.kp T.b__law_draw .nil pass0 (pa_cons (pv 0) (pa_cons pe_int pa_nil))) pa_nil)) (blkOk_by (own := [("_law_more", 4)]) (N := _law_lots_N) (sc := defScope _law_lots_s) (by decide +kernel)) (fun _ _ _ _ _ => (pg_name (i := 4) sc__law_lots.nd rfl (Or.inl rfl))) (fun _ _ _ _ _ => pts_nil) (fun _ _ _ _ _ => (pe_call G__law_draw (hr.mono (by omega)) (by rfl) T.m__law_draw T.F__law_draw.kp T.b__law_draw .nil pass0 (pa_cons (pv 0) (pa_cons pe_int pa_nil))))) pa_nil)) pa_nil)))
        (pss_cons (ps_set (i := 4) sc__law_lots.nd rfl (Or.inr rfl) (pe_op (k_catS (K := K)) (pe_lst (pa_cons (pv 3) pa_nil)) (pe_lc (own := [("_law_one", 6)]) (g := gName 6) (tt := tYes) rfl sc__law_lots.nd (k_pi (K := K) (pv 1)) (blkOk_by (own := [("_law_one", 6)]) (N := _law_lots_N) (sc := defScope _law_lots_s) (by decide +kernel)) (fun _ _ _ _ _ => (pg_name (i := 6) sc__law_lots.nd rfl (Or.inl rfl))) (fun _ _ _ _ _ => pts_nil) (fun _ _ _ _ _ => (pe_callB (k_sset (w := w) rfl) (by rfl) T.z_sorted (by decide +kernel) (pa_cons (pe_callTy (k_setW (K := K) (w := w) rfl) (by rfl) T.z_set (by decide +kernel) (pa_cons (pe_op (k_catS (K := K)) (pv 6) (pv 3)) pa_nil)) pa_nil))))))
        (pss_cons (ps_set (i := 5) sc__law_lots.nd rfl (Or.inl rfl) (pe_op (k_catS (K := K)) (pv 1) (pe_lc (own := [("_law_at", 7), ("_law_one", 6)]) (g := gTup K 2 (gCons (gName 7) (gCons (gName 6) gNil))) (tt := _) rfl sc__law_lots.nd (pi_enum (by rfl) T.z_enumerate (pa_cons (pv 4) pa_nil)) (blkOk_by (own := [("_law_at", 7), ("_law_one", 6)]) (N := _law_lots_N) (sc := defScope _law_lots_s) (by decide +kernel)) (fun _ _ _ _ _ => (pg_tup rfl (pgs_cons (pg_name (i := 7) sc__law_lots.nd rfl (Or.inl rfl)) (pgs_cons (pg_name (i := 6) sc__law_lots.nd rfl (Or.inl rfl)) pgs_nil)))) (fun _ _ _ _ _ => (pts_one (PW.pt (pw_and (pt_cmpR (k_notInD (K := K) hr) (pv 6) (pv 1) (by rfl)) (pw_and1 (pt_cmpR (k_notInD (K := K) hr) (pv 6) (pe_slice (k_sl (K := K)) (pv 4) po_none (po_some (pv 7))) (by rfl))))))) (fun _ _ _ _ _ => (pv 6)))))
        (pss_one (ps_set (i := 1) sc__law_lots.nd rfl (Or.inr rfl) (pe_ifExp (pt_cmpR op_lt (pe_callB (k_len (K := K)) (by rfl) T.z_len (by decide +kernel) (pa_cons (pv 5) pa_nil)) pe_int (nomark _)) (pv 5) (pv 1))))))))
      (pss_one (ps_ret (pe_call G__law_mixed (hr.mono (by omega)) (by rfl) T.m__law_mixed T.F__law_mixed.kp T.b__law_mixed .nil pass0 (pa_cons (pv 0) (pa_cons (pv 1) pa_nil))))))), ?_⟩
  refine s_seq (s_set (t_lst0 fun F0 hF0 => nx_of ?_))
  have s0 := same_new (o := HO.lst []) hF0
  have d0 := dp_newL (K := K) (ds := []) kn hF0 .nil
  have pot0 := pot.same s0
  have kn0 := kn.same s0
  generalize upd H F0 (.lst []) = H0 at *
  refine s_seq ?_
  show iRng1 (tCons _ tNil) _ _ _
  refine r_rng1 (a_cons (t_op (t_c (t_call2 (t_var rfl (t_c ⟨p, 5, rfl, pot0, by decide, by decide, fun d H1 hd sb1 pt1 => ⟨_, _, rfl, rfl, a_nil ⟨1 + (d : Int), rfl, by omega, by omega, ?_⟩⟩⟩))))))
  rw [show (1 + (d : Int)).toNat = 1 + d by omega]
  refine for_it walk_range (fun i σ' H' => ∃ (F : V) (L : List (List Nat)) (x2 x3 x4 x5 x6 x7 : Option V), σ' = [some (.ref p), some F, x2, x3, x4, x5, x6, x7] ∧ Dp K (off S H') F (nLL L) ∧ Lots L ∧ (1 ≤ i → 1 ≤ L.length) ∧ SameBut p H H' ∧ PotAt H' p)
    ⟨_, [], _, _, _, _, _, _, rfl, dp_same (off_bt hS sb1) _ _ d0, ⟨fun l h => (nomatch h), fun l h => (nomatch h), by decide⟩, fun h => by omega, sb_trans (sbut s0) sb1, pt1⟩ (fun _ _ _ _ _ => trivial) ?_ ?_
  · rintro i x0 σ' Ha Hb hi ⟨F, L, x2, x3, x4, x5, x6, x7, rfl, dF, lo, ne, sbH, pt⟩ ⟨rfl, rfl⟩
    have kn1 := kn_bt kn sbH pt.some
    have l7 := lo.few
    refine g_name ?_
    refine s_seq (s_set (t_cb1 (t_cb1 (lc_potR nD (K := K) (Pn := fun n => n ≤ 3) (Xp := fun _ _ _ => True) (Good := fun n => n < 4) hS kn1 (fun q' h' => ?_) (fun n h => by omega) (fun _ => rfl) (fun D H1 x hD sb => trivial) (fun x H1 S' sb pt1 kn1 hS' _ Q' q' => ?_) fun D H2 n ms sb2 pt2 hn hl good dM => ?_))))
    · exact a_cons (t_call2 (t_var rfl (t_c ⟨p, 4, rfl, pt, by decide, by decide, fun d H2 hd sb pt => a_nil (h' H2 d sb pt (by omega))⟩)))
    · exact t_call2 (t_var rfl (t_c ⟨p, 4, rfl, pt1, by decide, by decide, fun d H2 hd sb2 pt2 => q' _ _ d sb2 pt2 hd (.int _)⟩))
    have kn2 := kn_bt kn1 sb2 pt2.some
    have b8 : ∀ n ∈ ms, n < 8 := fun n hn => by have := good n hn; omega
    refine sort_set kn2 dM (by omega) b8 fun f H3 s3 df => nx_of ?_
    have lf : Lt (uq ms) := lt_uq good
    generalize uq ms = fl at *
    have dF3 : Dp K (off S H3) F (nLL L) := dp_same ((off_bt hS sb2).trans (off_same s3)) _ _ dF
    have kn3 := kn2.same s3
    have pt3 := pt2.same s3
    have sb03 := sb_trans (sb_trans sbH sb2) (sbut s3)
    refine s_seq (s_set (t_op (t_lst (a_cons (t_var rfl (a_nil ⟨le1, fun pl hpl => ?_⟩))))))
    have s4 := same_new (o := HO.lst [f]) hpl
    have dl4 := dp_newL (K := K) (ds := [nL fl]) kn3 hpl (.cons df .nil)
    have kn4 := kn3.same s4
    generalize upd H3 pl (.lst [f]) = H4 at *
    have dF4 := dp_same (off_same s4) _ _ dF3
    have df4 := dp_same (off_same s4) _ _ df
    refine lcM false L nL (fun l => nL (un l fl)) kn4 (fun Q q => t_var rfl (q _ _ (Same.refl _) dF4)) (by omega) (fun _ => rfl) (fun l hl' y H5 S5 s5 kn5 dy hS5 ho Q5 q5 => ?_) fun D5 H5 ys hD5 s5 hd5 h5 => ?_
    · have ll := lo.lt l hl'
      have len4 : ∀ {l : List Nat}, Lt l → l.length ≤ 4 := fun {l} h => lt_len h
      refine t_cb1 (t_cb1 (t_op (t_var rfl (t_var rfl (cat_d (ds := l.map nD) (es := fl.map nD) kn5 dy (dp_same ho _ _ df4) (by rw [List.length_map, List.length_map]; have := len4 ll; have := len4 lf; omega) fun u6 H6 s6 d6 => ?_)))))
      rw [← List.map_append] at d6
      refine sort_set (kn5.same s6) d6 (by rw [List.length_append]; have := len4 ll; have := len4 lf; omega) (fun n hn => (List.mem_append.mp hn).elim (ll.eight n) (lf.eight n)) fun u7 H7 s7 d7 => q5 u7 H7 (s6.trans s7) d7
    refine cat_d (ds := [nL fl]) (es := L.map fun l => nL (un l fl)) (kn4.same s5) (dp_same (off_same s5) _ _ dl4) h5 (by simp; omega) fun M0 H6 s6 d6 => nx_of ?_
    have eM : [nL fl] ++ L.map (fun l => nL (un l fl)) = (more L fl).map nL := by unfold more; rw [List.map_cons, List.map_map]; rfl
    rw [eM] at d6
    have s46 := s5.trans s6
    have kn6 := kn4.same s46
    have dF6 := dp_same (off_same s46) _ _ dF4
    have lM : (more L fl).length = L.length + 1 := by unfold more; simp
    refine s_seq (s_set (t_op (t_var rfl (lc_enum ((more L fl).map nL) (fits L (more L fl)) kn6 (fun q' h' => a_cons (t_var rfl (a_nil (h' _ _ (Same.refl _) d6)))) (by rw [List.length_map, lM]; omega) (fun _ _ => rfl) (fun _ _ => rfl) (fun j d y H7 S7 hj s7 kn7 dy hS7 ho Q7 q7 => ?_) fun D7 H7 hD7 s7 h7 => ?_))))
    · obtain ⟨l, hl2, hm, rfl⟩ := at_map hj
      have dF7 : Dp K (off S7 H7) F (.list (L.map nL)) := dp_same ho _ _ dF6
      have dM7 : Dp K (off S7 H7) M0 (.list ((more L fl).map nL)) := dp_same ho _ _ d6
      have hjl := (List.getElem?_eq_some_iff.mp hl2).1
      have ef : fits L (more L fl) j = (!decide (l ∈ L) && !decide (l ∈ (more L fl).take j)) := by unfold fits; rw [getD_at hl2]
      rw [ef] at q7
      refine b_and (b_test (t_op (t_var rfl (t_var rfl ⟨_, _, dp_same off_sub _ _ dy, dp_same off_sub _ _ dF7, shd_shaped (shd_nL l), shaped_nLL L, ⟨_, rfl, ?_⟩⟩))))
      rw [any_nL]
      by_cases hL : l ∈ L
      · refine ifF (by rw [decide_eq_true hL]; rfl) ?_
        rw [decide_eq_true hL] at q7
        exact q7 _ (Same.refl _)
      · refine ifT (by rw [decide_eq_false hL]; rfl) ?_
        rw [decide_eq_false hL] at q7
        refine b_test (t_op (t_var rfl (t_sl (t_var rfl (o_none (o_some (t_var rfl ⟨_, rfl, sl_take (m := j) (f := nL) kn7 dM7 (by omega) fun u8 H8 s8 d8 => ?_⟩)))))))
        refine ⟨_, _, dp_same (off_sub.trans s8) _ _ dy, dp_same off_sub _ _ d8, shd_shaped (shd_nL l), shaped_nLL _, ⟨_, rfl, ?_⟩⟩
        rw [any_nL]
        have := q7 H8 s8
        simpa using this
    rw [grown_data] at h7
    have dF7 : Dp K (off S H7) F (.list (L.map nL)) := dp_same (off_same s7) _ _ dF6
    refine cat_d (ds := L.map nL) (kn6.same s7) dF7 h7 (by
      rw [List.length_map, List.length_map, List.length_map]
      have := List.length_filter_le (fits L (more L fl)) (List.range (more L fl).length)
      rw [List.length_range] at this
      omega) fun u8 H8 s8 d8 => nx_of ?_
    rw [← List.map_append] at d8
    replace d8 : Dp K (off S H8) u8 (.list ((grown L (more L fl)).map nL)) := d8
    have s78 := s7.trans s8
    have dF8 := dp_same (off_same s8) _ _ dF7
    have s38 := (s4.trans s46).trans s78
    have sb08 := sb_trans sb03 (sbut s38)
    have pt8 := pt3.same s38
    refine s_set (t_if (b_test (t_op (t_cb1 (t_var rfl (len_d off_sub d8 rfl (t_c ⟨_, _, rfl, rfl, ⟨_, rfl, ?_⟩⟩)))))))
    rw [List.length_map]
    by_cases h8 : (grown L (more L fl)).length < 8
    · refine ifT (decide_eq_true (by omega)) (t_var rfl ⟨u8, grown L (more L fl), _, _, _, _, _, _, rfl, d8, lots_more lo lf (fun l => mem_grown) (by omega), fun _ => ?_, sb08, pt8⟩)
      have : fl ∈ grown L (more L fl) := mem_grown.mpr (.inr List.mem_cons_self)
      exact List.length_pos_of_mem this
    · have := len_grown L (more L fl)
      refine ifF (decide_eq_false (by omega)) (t_var rfl ⟨F, L, _, _, _, _, _, _, rfl, dF8, lo, fun _ => by omega, sb08, pt8⟩)
  · rintro σ' H2 ⟨F, L, x2, x3, x4, x5, x6, x7, rfl, dF, lo, ne, sbH, pt⟩
    have kn2 := kn_bt kn sbH pt.some
    have l7 := lo.few
    refine nx_of (s_ret (t_call2 (t_var rfl (t_var rfl ⟨S, p, F, L.map nL, rfl, kn2, hS, pt, dF, fun d hd => by obtain ⟨l, _, rfl⟩ := List.mem_map.mp hd; exact shd_nL l, by rw [List.length_map]; omega, fun u H3 es sb3 pt3 pm du => ?_⟩))))
    obtain ⟨M, pM, rfl⟩ := perm_map pm
    refine q u H3 M (sb_trans sbH sb3) pt3 ⟨fun l hl => lo.lt l (pM.mem_iff.mp hl), fun l hl m hm => pM.mem_iff.mpr (lo.cl l (pM.mem_iff.mp hl) m (pM.mem_iff.mp hm)), by rw [pM.length_eq]; exact l7⟩ (by rw [pM.length_eq]; exact ne (by omega)) du
end
end K31

set_option maxRecDepth 100000
set_option maxHeartbeats 4000000
namespace K31
open PySem PySem.Spec PyProof.Rows L2 Kh
theorem np_ints {H : Hp} {p : Addr} {m : List Nat} (h : H p = some (.lst (ivs m))) : Np H (.ref p) (nL m) :=
  .lst h (by simp [ivs]) fun i x d h1 h2 => by
    unfold ivs at h1
    rw [List.getElem?_map] at h1 h2
    cases e : m[i]? with
    | none => rw [e] at h1; cases h1
    | some n => rw [e] at h1 h2; cases h1; cases h2; exact .int _
theorem np_list {H : Hp} {v : V} {ds : List PyData} (h : Np H v (.list ds)) : ∃ a xs, v = .ref a ∧ H a = some (.lst xs) ∧ xs.length = ds.length ∧ ∀ (i : Nat) x d, xs[i]? = some x → ds[i]? = some d → Np H x d := by
  cases h with
  | lst h l t => exact ⟨_, _, rfl, h, l, t⟩
theorem np_new {S2 : Addr → Prop} {H : Hp} {p : Addr} {xs : List V} {ds : List PyData} (kn : Kn S2 H) (hp : H p = none) (l : xs.length = ds.length) (t : ∀ (i : Nat) x d, xs[i]? = some x → ds[i]? = some d → Np (off S2 H) x d) : Np (off S2 (upd H p (.lst xs))) (.ref p) (.list ds) :=
  .lst (by rw [off_out (kn.new hp)]; exact upd_same) l fun i x d h1 h2 => (t i x d h1 h2).same (off_same (same_new hp))
/-- a method of a list with a parameter, in a block -/
theorem k_bm {X : Cx} {K : PySem.W.Frag} {o e : Expr} {es : List Expr} {to : TE} {t : TA} {name : Str} {ap cp : Pos} {Ty id : String} {r : V → List V → Hp → VK → Prop} (pa : PlainAttrs Ty) (sl : Slot Ty name id) (ht : typeOf (.builtin id) = pure (.type "method_descriptor")) (hm : MtR X id r) (ho : PE X o to) (ha : PA X (e :: es) t) (h : X.K = K := by rfl)
    (h1 : attributeBase o name X.env (eval o X.env) = eval o X.env := by rfl) (h2 : ((backTo cp (starEach (e :: es) X.env)).all (fun x => !x.1) && (backToKw cp (keywordEach [] X.env)).all (fun x => x.1.isSome) && decide ((e :: es).length + ([] : List Keyword).length + (if ([] : List Keyword).isEmpty then 0 else 1) < 30)) = true := by rfl)
    (h3 : (ap.endLine == cp.line) = true := by rfl) (h4 : starEach (e :: es) X.env = (false, eval e X.env) :: starEach es X.env := by rfl) (h5 : (backTo cp (starEach es X.env)).any (·.1) = false := by rfl) : PE X (.Call (.Attribute o name ap) (e :: es) [] cp) (tBM K Ty r to t) := by
  subst h; exact pe_bm pa sl ht hm ho ha h1 h2 h3 h4 h5
theorem k_indexD {X : Cx} {K : PySem.W.Frag} {k : Nat} (hr : Room k X.A) (h : X.K = K := by rfl) : MtR X "list.index" (rIndexD K) := by subst h; exact mt_indexD (by have := hr.un; omega)
open Classical in
noncomputable def ixL (L : List (List Nat)) (l : List Nat) : Nat := if h : l ∈ L then Classical.choose (first_at h) else 0
theorem ixL_spec {L : List (List Nat)} {l : List Nat} (h : l ∈ L) : ixL L l < L.length ∧ L[ixL L l]? = some l ∧ l ∉ L.take (ixL L l) := by
  unfold ixL
  rw [dif_pos h]
  exact Classical.choose_spec (first_at h)
noncomputable def melting (L : List (List Nat)) : List (List Nat) := L.map fun l => L.map fun m => ixL L (un l m)
theorem tb_melting {L : List (List Nat)} (h : Lots L) (h1 : 1 ≤ L.length) : Tb (melting L) where
  pos := by unfold melting; rw [List.length_map]; exact h1
  few := by unfold melting; rw [List.length_map]; exact h.few
  row := fun r hr => by
    unfold melting at hr ⊢
    obtain ⟨l, _, rfl⟩ := List.mem_map.mp hr
    rw [List.length_map, List.length_map]
  num := fun r hr n hn => by
    unfold melting at hr ⊢
    obtain ⟨l, hl, rfl⟩ := List.mem_map.mp hr
    obtain ⟨m, hm, rfl⟩ := List.mem_map.mp hn
    rw [List.length_map]
    exact (ixL_spec (h.cl l hl m hm)).1
theorem idx_nL {K : PySem.W.Frag} {S : Addr → Prop} {H : Hp} {v y : V} {L : List (List Nat)} {l : List Nat} {Q : VK} (hL : Dp K (off S H) v (nLL L)) (hy : Dp K (off S H) y (nL l)) (hm : l ∈ L) (q : Q (.int (ixL L l : Nat)) H) : rIndexD K v [y] H Q := by
  obtain ⟨a, xs, rfl, hs, ha⟩ := list_at (ds := L.map nL) hL
  obtain ⟨h1, h2, h3⟩ := ixL_spec hm
  refine ⟨a, y, nL l, L.map nL, ixL L l, nL l, rfl, rfl, dp_same off_sub _ _ hL, dp_same off_sub _ _ hy, shaped_nLL L, shd_shaped (shd_nL l), by rw [List.getElem?_map, h2]; rfl, by rw [eqv_nums]; simp, fun m z hm' hz => ?_, q⟩
  rw [List.getElem?_map] at hz
  cases e : L[m]? with
  | none => rw [e] at hz; cases hz
  | some l' =>
    rw [e] at hz
    cases hz
    rw [eqv_nums]
    refine decide_eq_false fun e2 => h3 ?_
    subst e2
    exact List.mem_iff_getElem?.mpr ⟨m, by rw [List.getElem?_take, if_pos hm']; exact e⟩
theorem lc_datNO {R : Hp → V → PyData → Prop} (rp : Rp R) {K : PySem.W.Frag} {S S2 : Addr → Prop} {H1 : Hp} {σ : L2.St} {te : TE} {sl : Nat} {vs : List Nat} {Qd : VK} {J : It} {xs : List V} {ds : List PyData} (f : Nat → PyData) (h12 : ∀ a, S a → S2 a)
    (w : Walk J xs.length (fun H' => Same (off S H1) H') (YAt xs)) (ha : DpAll K (off S H1) xs ds) (kn : Kn S2 H1) (hn : ds.length ≤ 100000) (hw : ∀ x, wipe ((wipe σ vs).set sl (some x)) vs = wipe σ vs)
    (body : ∀ j x d H Sa Sb, ds[j]? = some d → Same H1 H → (∀ a, Sa a → Sb a) → Kn Sb H → Dp K (off Sa H) x d → (∀ a, S2 a → Sb a) → Same (off S H1) (off Sa H) → ∀ Q : VK, (∀ y H', Same H H' → R (off Sb H') y (f j) → Q y H') → te ((wipe σ vs).set sl (some x)) H Q)
    (done : ∀ D H ys, H1 D = none → Same H1 H → H D = some (.lst ys) → R (off S2 H) (.ref D) (.list ((List.range ds.length).map f)) → Qd (.ref D) H) :
    ∀ D, H1 D = none → ∃ W : Nat → Nat → Hp → Prop, (∃ m, W 0 m (upd H1 D (.lst []))) ∧ ∀ i m H, W i m H →
      (J.stop i H ∧ Qd (.ref D) H) ∨ (J.go i H ∧ ∃ Nx : Hp → Prop, (∀ H', Nx H' → ∃ m', m' < m ∧ W (i + 1) m' H') ∧ ∀ x H', J.yld i H x H' → gName sl x (wipe σ vs) H' fun σ2 H2 => wipe σ2 vs = wipe σ vs ∧ tYes σ2 H2 fun b H3 =>
        if b = true then te σ2 H3 fun y H4 => ∃ acc, H4 D = some (.lst acc) ∧ acc.length < sizeLine ∧ Nx (upd H4 D (.lst (acc ++ [y]))) else Nx H3) := by
  intro D hD
  have ln := dpa_len ha
  refine lc_map (Qd := Qd (.ref D)) w (fun j x => xs[j]? = some x) (fun i H x H' _ y => y) (fun j y H => R (off (plus S2 D) H) y (f j)) (fun H s => off_sub.trans s) hD (by omega) hw (fun j y H H' e h => rp.same (off_but e) h) (fun j x H hj xj s hd Q q => ?_) (fun ys H hl py s hd => ?_)
  · obtain ⟨d, dj, dx⟩ := dpa_at ha xj
    exact body j x d H (plus S D) (plus S2 D) dj s (fun a z => z.imp (h12 a) id) ((kn.same s).plus hd) (dp_same (off_plus hD s) _ _ dx) (fun _ h => .inl h) (off_plus hD s) Q q
  · refine done D H ys hD s hd (rp.lst (by rw [off_out (kn.new hD)]; exact hd) (by simp [hl, ln]) fun i v d h1 h2 => rp.same (off_fin (D := D)) ?_)
    have hi : i < ds.length := by
      have := (List.getElem?_eq_some_iff.mp h1).1
      omega
    rw [List.getElem?_map, List.getElem?_range hi] at h2
    cases h2
    exact py i v h1
theorem lc_seqNO {R : Hp → V → PyData → Prop} (rp : Rp R) {K : PySem.W.Frag} {S S2 : Addr → Prop} {H : Hp} {σ : L2.St} {t te : TE} {sl : Nat} {vs : List Nat} {Q : VK} {b : Bool} {ds : List PyData} (f : Nat → PyData) (h12 : ∀ a, S a → S2 a) (kn : Kn S2 H)
    (hev : ∀ Q : VK, (∀ u H1, Same H H1 → Dp K (off S H1) u (sq b ds) → Q u H1) → t σ H Q) (hn : ds.length ≤ 100000) (hw : ∀ x, wipe ((wipe σ vs).set sl (some x)) vs = wipe σ vs)
    (body : ∀ j x d H1 Sa Sb, ds[j]? = some d → Same H H1 → (∀ a, Sa a → Sb a) → Kn Sb H1 → Dp K (off Sa H1) x d → (∀ a, S2 a → Sb a) → Same (off S H) (off Sa H1) → ∀ Q : VK, (∀ y H', Same H1 H' → R (off Sb H') y (f j) → Q y H') → te ((wipe σ vs).set sl (some x)) H1 Q)
    (done : ∀ D H1 ys, H D = none → Same H H1 → H1 D = some (.lst ys) → R (off S2 H1) (.ref D) (.list ((List.range ds.length).map f)) → Q (.ref D) H1) :
    tLc (fun σ H R => iList K t σ H R ∨ iTup K t σ H R) (gName sl) tYes te vs σ H Q :=
  it_any hev fun J xs H1 s ha w => lc_datNO rp f h12 w ha (kn.same s) hn hw (fun j x d H2 Sa Sb dj s2 hab kn2 dx hS ho Q q => body j x d H2 Sa Sb dj (s.trans s2) hab kn2 dx hS ((off_same s).trans ho) Q q)
    fun D H2 ys hD s2 hd h => done D H2 ys (s.free hD) (s.trans s2) hd h
section
variable {P : Program} {w : World} {K : PySem.W.Frag} {mg : Str → Option Value} {base : Heap} {a : Nat → Addr} {fd : Nat → FuncData} {C : Addr} {tk : Nat → Tok}
def spMelting (K : PySem.W.Frag) : Sp := fun vs H Q _ => ∃ (S : Addr → Prop) (p : Addr), vs = [.ref p] ∧ Kn S H ∧ S p ∧ PotAt H p ∧
  ∀ u H1 H' R, SameBut p H H1 → PotAt H1 p → Same H1 H' → Tb R → Np (off (old H1) H') u (nLL R) → Q u H'
theorem ok__law_melting (T : Txt K mg a fd C tk) : FnOk P w K mg base CX0 4 (a 21) (fd 21) ["_law_pot_here"] (spMelting K) := by
  have G__law_lots := ok__law_lots (P := P) (w := w) (base := base) T
  refine T.F__law_melting.ok sc__law_melting (fun vs H Q E h => by obtain ⟨_, _, rfl, _⟩ := h; rfl) (fun cdv A outer s H vs Q E hr h => ?_)
  obtain ⟨S, p, rfl, kn, hS, pot, q⟩ := h
  refine ⟨_, (pss_cons (ps_set (i := 1) sc__law_melting.nd rfl (Or.inr rfl) (pe_call G__law_lots (hr.mono (by omega)) (by rfl) T.m__law_lots T.F__law_lots.kp T.b__law_lots .nil pass0 (pa_cons (pv 0) pa_nil)))
      (pss_one (ps_ret (pe_lc (own := [("_law_one", 2)]) (g := gName 2) (tt := tYes) rfl sc__law_melting.nd (k_pi (K := K) (pv 1)) (blkOk_by (own := [("_law_one", 2)]) (N := _law_melting_N) (sc := defScope _law_melting_s) (by decide +kernel)) (fun _ _ _ _ _ => (pg_name (i := 2) sc__law_melting.nd rfl (Or.inr rfl))) (fun _ _ _ _ _ => pts_nil) (fun _ _ _ _ _ => (pe_lc (own := [("_law_other", 3)]) (g := gName 3) (tt := tYes) rfl sc__law_melting.nd (k_pi (K := K) (pv 1)) (show BlkOk _law_melting_N (relS _ (defScope _law_melting_s)) _ [("_law_other", 3)] from blkOk_by (by decide +kernel)) (fun _ _ _ _ _ => (pg_name (i := 3) sc__law_melting.nd rfl (Or.inl rfl))) (fun _ _ _ _ _ => pts_nil) (fun _ _ _ _ _ => (k_bm (K := K) PySem.F.plainAttrs_list PySem.F.slot_list_index PySem.F.type_list_index (k_indexD (K := K) hr) (pv 1) (pa_cons (pe_callB (k_sset (w := w) rfl) (by rfl) T.z_sorted (by decide +kernel) (pa_cons (pe_callTy (k_setW (K := K) (w := w) rfl) (by rfl) T.z_set (by decide +kernel) (pa_cons (pe_op (k_catS (K := K)) (pv 2) (pv 3)) pa_nil)) pa_nil)) pa_nil))))))))), ?_⟩
  refine s_seq (s_set (t_call1 (t_var rfl ⟨S, p, rfl, kn, hS, pot, fun vL H1 L sb1 pt1 lo h1 dL => nx_of ?_⟩)))
  replace dL : Dp K (off S H1) vL (.list (L.map nL)) := dL
  have kn1 := kn_bt kn sb1 pt1.some
  have l7 := lo.few
  refine s_ret (lc_seqNO rp_np (b := false) (ds := L.map nL) (pick L .none fun l => nL (L.map fun m => ixL L (un l m))) (old_of kn1) kn_old (fun Q q => t_var rfl (q _ _ (Same.refl _) dL)) (by rw [List.length_map]; omega) (fun _ => rfl) (fun j y d H2 Sa Sb dj s2 hab kn2 dy hS2 ho2 Q2 q2 => ?_) fun D H2 ys hD s2 hd2 h2 => ?_)
  · obtain ⟨l, hj, hl, rfl⟩ := at_map dj
    have knA : Kn Sa H2 := fun b z => kn2 b (hab b z)
    have dLo : Dp K (off Sa H2) vL (.list (L.map nL)) := dp_same ho2 _ _ dL
    refine lc_seqNO rp_np (b := false) (ds := L.map nL) (pick L .none fun m => nD (ixL L (un l m))) hab kn2 (fun Q q => t_var rfl (q _ _ (Same.refl _) dLo)) (by rw [List.length_map]; omega) (fun _ => rfl) (fun i z d3 H3 Sc Sd di s3 hcd kn3' dz hS3 ho Q3 q3 => ?_) fun D3 H3 ys hD3 s3 hd3 h3 => ?_
    · obtain ⟨m, hi, hm, rfl⟩ := at_map di
      have kn3 : Kn Sc H3 := fun b z => kn3' b (hcd b z)
      have ll := lo.lt l hl
      have lm := lo.lt m hm
      obtain ⟨la, xa, rfl, hsa, _⟩ := list_at (dp_same ho _ _ dLo)
      refine t_bm (t_var rfl ⟨.inl ⟨rfl, xa, off_sub.seq hsa⟩, a_cons (t_cb1 (t_cb1 (t_op (t_var rfl (t_var rfl (cat_d (ds := l.map nD) (es := m.map nD) kn3 (dp_same ho _ _ dy) dz (by rw [List.length_map, List.length_map]; have := lt_len ll; have := lt_len lm; omega) fun u6 H6 s6 d6 => ?_))))))⟩)
      rw [← List.map_append] at d6
      refine sort_set (kn3.same s6) d6 (by rw [List.length_append]; have := lt_len ll; have := lt_len lm; omega) (fun n hn => (List.mem_append.mp hn).elim (ll.eight n) (lm.eight n)) fun u7 H7 s7 d7 => a_nil ?_
      refine idx_nL (dp_same (ho.trans (off_same (s6.trans s7))) _ _ dLo) d7 (lo.cl l hl m hm) (q3 _ _ (s6.trans s7) ?_)
      rw [pick_eq hi]
      exact .int _
    · rw [List.length_map, range_map (l := L) (f := pick L .none fun m => nD (ixL L (un l m))) (g := fun m => nD (ixL L (un l m))) fun i x e => pick_eq e] at h3
      refine q2 _ H3 s3 ?_
      rw [pick_eq hj]
      unfold nL
      rw [List.map_map]
      exact h3
  · rw [List.length_map, range_map (l := L) (f := pick L .none fun l => nL (L.map fun m => ixL L (un l m))) (g := fun l => nL (L.map fun m => ixL L (un l m))) fun i x e => pick_eq e] at h2
    refine q _ H1 H2 (melting L) sb1 pt1 s2 (tb_melting lo h1) ?_
    unfold nLL melting
    rw [List.map_map]
    exact h2
end
end K31

set_option maxRecDepth 100000
set_option maxHeartbeats 4000000
namespace K31
open PySem PySem.Spec PyProof.Rows L2 Kh
/-- rows that may be set in place: none of their lists is in S0 -/
def Mat (S0 : Addr → Prop) (H : Hp) (b : Addr) (n : Nat) : Prop := ∃ xs : List V, H b = some (.lst xs) ∧ ¬ S0 b ∧ xs.length = n ∧ ∀ x ∈ xs, ∃ (c : Addr) (ns : List Nat), x = .ref c ∧ ¬ S0 c ∧ H c = some (.lst (ivs ns)) ∧ ns.length = n ∧ ∀ m ∈ ns, m < n
theorem np_intsI {H : Hp} : ∀ {ns : List Nat} {xs : List V}, xs.length = ns.length → (∀ (i : Nat) x d, xs[i]? = some x → (ns.map nD)[i]? = some d → Np H x d) → xs = ivs ns
  | [], [], _, _ => rfl
  | [], _ :: _, h, _ => by simp at h
  | _ :: _, [], h, _ => by simp at h
  | n :: ns, x :: xs, h, t => by
    have h0 := t 0 x (nD n) rfl rfl
    cases h0
    have := np_intsI (ns := ns) (xs := xs) (by simpa using h) fun i y d h1 h2 => t (i + 1) y d (by simpa using h1) (by simpa using h2)
    rw [this]; rfl
theorem mat_np {S0 : Addr → Prop} {H : Hp} {u : V} {R : List (List Nat)} (tb : Tb R) (h : Np (off S0 H) u (nLL R)) : ∃ b, u = .ref b ∧ Mat S0 H b R.length := by
  obtain ⟨b, xs, rfl, hb, l, t⟩ := np_list (ds := R.map nL) h
  have hb' := off_some hb
  refine ⟨b, rfl, xs, hb'.2, hb'.1, by rw [l, List.length_map], fun x hx => ?_⟩
  obtain ⟨i, hi⟩ := List.mem_iff_getElem?.mp hx
  have il : i < R.length := by have := (List.getElem?_eq_some_iff.mp hi).1; rw [l, List.length_map] at this; exact this
  have n1 := t i x (nL R[i]) hi (by rw [List.getElem?_map, List.getElem?_eq_getElem il]; rfl)
  obtain ⟨c, ys, rfl, hc, l2, t2⟩ := np_list (ds := R[i].map nD) n1
  have e := np_intsI (by rw [l2, List.length_map]) t2
  subst e
  have hc' := off_some hc
  have mr : R[i] ∈ R := List.getElem_mem il
  exact ⟨c, R[i], rfl, hc'.1, hc'.2, tb.row _ mr, tb.num _ mr⟩
theorem pick_rows {K : PySem.W.Frag} {H : Hp} {Pr : List Nat → Prop} : ∀ {xs : List V}, (∀ x ∈ xs, ∃ ns, Pr ns ∧ Dp K H x (nL ns)) → ∃ R : List (List Nat), R.length = xs.length ∧ (∀ r ∈ R, Pr r) ∧ DpAll K H xs (R.map nL)
  | [], _ => ⟨[], rfl, fun r h => (nomatch h), .nil⟩
  | x :: xs, h => by
    obtain ⟨ns, h1, h2⟩ := h x List.mem_cons_self
    obtain ⟨R, l, h3, h4⟩ := pick_rows (xs := xs) fun y hy => h y (List.mem_cons_of_mem _ hy)
    exact ⟨ns :: R, by simp [l], fun r hr => (List.mem_cons.mp hr).elim (fun e => e ▸ h1) (h3 r), .cons h2 h4⟩
theorem Mat.rows {K : PySem.W.Frag} {S S0 : Addr → Prop} {H : Hp} {b : Addr} {n : Nat} (h : Mat S0 H b n) (h0 : ∀ a, S a → S0 a) (n1 : 1 ≤ n) (n7 : n ≤ 7) : ∃ R, Tb R ∧ R.length = n ∧ Dp K (off S H) (.ref b) (nLL R) := by
  obtain ⟨xs, hb, nb, l, t⟩ := h
  obtain ⟨R, lR, pr, da⟩ := pick_rows (K := K) (H := off S H) (Pr := fun ns => ns.length = n ∧ ∀ m ∈ ns, m < n) (xs := xs) fun x hx => by
    obtain ⟨c, ns, rfl, nc, hc, ln, lt⟩ := t x hx
    exact ⟨ns, ⟨ln, lt⟩, dp_lst (fun z => nc (h0 _ z)) hc (nats_dpa ns)⟩
  refine ⟨R, ⟨by omega, by omega, fun r hr => by rw [(pr r hr).1]; omega, fun r hr m hm => by have := (pr r hr).2 m hm; omega⟩, by omega, dp_lst (fun z => nb (h0 _ z)) hb da⟩
theorem Mat.but {S0 : Addr → Prop} {H H' : Hp} {p b : Addr} {n : Nat} (h : Mat S0 H b n) (hp : S0 p) (e : SameBut p H H') : Mat S0 H' b n := by
  obtain ⟨xs, hb, nb, l, t⟩ := h
  refine ⟨xs, e _ _ (fun z => nb (z ▸ hp)) hb, nb, l, fun x hx => ?_⟩
  obtain ⟨c, ns, rfl, nc, hc, r⟩ := t x hx
  exact ⟨c, ns, rfl, nc, e _ _ (fun z => nc (z ▸ hp)) hc, r⟩
theorem ivs_set (ns : List Nat) (j m : Nat) : (ivs ns).set j (.int (m : Nat)) = ivs (ns.set j m) := by
  unfold ivs; rw [List.map_set]
theorem ixN_ok {n j : Nat} (h : j < n) : ixN n ((j : Nat) : Int) = some j := by
  unfold ixN; rw [if_pos (by omega), if_pos (by omega)]; congr 1
/-- rows[i][j] = m -/
theorem Mat.put {S0 : Addr → Prop} {H : Hp} {p b : Addr} {n i : Nat} (h : Mat S0 H b n) (hp : S0 p) (hi : i < n) : ∃ xs c ns, H b = some (.lst xs) ∧ xs[i]? = some (.ref c) ∧ ¬ S0 c ∧ ns.length = n ∧ ∀ H', SameBut p H H' → H' c = some (.lst (ivs ns)) ∧ ∀ j m, j < n → m < n → Mat S0 (upd H' c (.lst ((ivs ns).set j (.int (m : Nat))))) b n := by
  obtain ⟨xs, hb, nb, l, t⟩ := h
  obtain ⟨c, ns, e, nc, hc, ln, lt⟩ := t xs[i] (List.getElem_mem (by omega))
  have bc : b ≠ c := fun z => by
    subst z
    rw [hb] at hc
    cases hc
    unfold ivs at e
    simp at e
  refine ⟨xs, c, ns, hb, by rw [List.getElem?_eq_getElem (by omega), e], nc, ln, fun H' sb => ⟨sb _ _ (fun z => nc (z ▸ hp)) hc, fun j m hj hm => ⟨xs, by rw [upd_ne bc]; exact sb _ _ (fun z => nb (z ▸ hp)) hb, nb, l, fun x hx => ?_⟩⟩⟩
  obtain ⟨c2, ns2, rfl, nc2, hc2, ln2, lt2⟩ := t x hx
  by_cases q : c2 = c
  · subst q
    refine ⟨c2, ns.set j m, rfl, nc, by rw [upd_same, ivs_set], by rw [List.length_set, ln], fun z hz => ?_⟩
    rcases List.mem_or_eq_of_mem_set hz with h | rfl
    · exact lt z h
    · exact hm
  · exact ⟨c2, ns2, rfl, nc2, by rw [upd_ne q]; exact sb _ _ (fun z => nc2 (z ▸ hp)) hc2, ln2, lt2⟩
theorem off_sb' {S S0 : Addr → Prop} {H : Hp} (h : ∀ a, S a → S0 a) : Same (off S0 H) (off S H) := fun b o e => by
  have := off_some e
  rw [off_out (fun z => this.1 (h _ z))]
  exact this.2
theorem lc_potO {α : Type} (f : α → PyData) {K : PySem.W.Frag} {S : Addr → Prop} {p : Addr} {H : Hp} {σ : L2.St} {t te : TE} {sl : Nat} {vs : List Nat} {Q : VK} (Pd : List PyData → Prop) (Good : PyData → α → Prop) (hS : S p) (kn : Kn S H)
    (hev : ∀ Q : VK, (∀ u H1 ds, SameBut p H H1 → PotAt H1 p → Pd ds → Dp K (off S H1) u (.list ds) → Q u H1) → t σ H Q) (hn : ∀ ds, Pd ds → ds.length ≤ 1000) (hw : ∀ x, wipe ((wipe σ vs).set sl (some x)) vs = wipe σ vs)
    (body : ∀ x d H1 S', SameBut p H H1 → PotAt H1 p → Kn S' H1 → S' p → Dp K (off S' H1) x d → (∃ ds, Pd ds ∧ d ∈ ds) → Same (off S H) (off S' H1) → ∀ Q : VK, (∀ y H' t, SameBut p H1 H' → PotAt H' p → Good d t → Dp K (off S' H') y (f t) → Q y H') → te ((wipe σ vs).set sl (some x)) H1 Q)
    (done : ∀ D H1 (ds : List PyData) (ts : List α), SameBut p H H1 → PotAt H1 p → Pd ds → ts.length = ds.length → (∀ (j : Nat) d t, ds[j]? = some d → ts[j]? = some t → Good d t) → Dp K (off S H1) (.ref D) (.list (ts.map f)) → Q (.ref D) H1) :
    tLc (fun σ H R => iList K t σ H R ∨ iTup K t σ H R) (gName sl) tYes te vs σ H Q := by
  refine .inl (hev _ fun u H1 ds s1 pot pd du => ?_)
  obtain ⟨ra, xs, rfl, hsq, ha⟩ := list_at du
  have ln := dpa_len ha
  have kn1 := kn_bt kn s1 pot.some
  refine ⟨ra, rfl, ⟨xs, off_sub.seq hsq⟩, ?_⟩
  refine lc_pot0 f (K := K) (n := xs.length) (G := fun H' => SqL K H' ra xs) (Y := YAt xs) (fun i x S' H' => (∃ d, ds[i]? = some d ∧ Dp K (off S' H') x d) ∧ Same (off S H1) (off S' H')) (fun j t => ∃ d, ds[j]? = some d ∧ Good d t) hS kn1 pot walk_list (fun H' sb => (off_keep hS sb).seq hsq) (by rw [ln]; exact hn ds pd) hw (fun D i H2 x H3 hD hi sb y => ⟨y.1, ?_⟩) (fun j x H2 S' hj sb pot2 kn2 hS' xp Q q => ?_) (fun D H2 ys ts sb pot2 hl good hd hD => ?_)
  · obtain ⟨d, dj, dx⟩ := dpa_at ha y.2
    exact ⟨⟨d, dj, dp_same (off_plusB hS hD sb) _ _ dx⟩, off_plusB hS hD sb⟩
  · obtain ⟨⟨d, dj, dx⟩, so⟩ := xp
    exact body x d H2 S' (sb_trans s1 sb) pot2 kn2 hS' dx ⟨ds, pd, List.mem_of_getElem? dj⟩ ((off_bt hS s1).trans so) Q fun y H' t s' pt g dy => q y H' t s' pt ⟨d, dj, g⟩ dy
  · refine done D H2 ds ts (sb_trans s1 sb) pot2 pd (by rw [hl, ln]) (fun j d t hj ht => ?_) hD
    obtain ⟨d', hd', g⟩ := good j t ht
    rw [hj] at hd'; cases hd'; exact g
section
variable {P : Program} {w : World} {K : PySem.W.Frag} {mg : Str → Option Value} {base : Heap} {a : Nat → Addr} {fd : Nat → FuncData} {C : Addr} {tk : Nat → Tok}
def spTable (K : PySem.W.Frag) : Sp := fun vs H Q _ => ∃ (S : Addr → Prop) (p : Addr), vs = [.ref p] ∧ Kn S H ∧ S p ∧ PotAt H p ∧
  ∀ u H' R, SameBut p H H' → PotAt H' p → Tb R → Dp K (off S H') u (nLL R) → Q u H'
theorem ok__law_table (T : Txt K mg a fd C tk) : FnOk P w K mg base CX0 5 (a 22) (fd 22) ["_law_pot_here"] (spTable K) := by
  have G__law_melting := ok__law_melting (P := P) (w := w) (base := base) T
  have G__law_draw := ok__law_draw (P := P) (w := w) (base := base) T
  refine T.F__law_table.ok sc__law_table (fun vs H Q E h => by obtain ⟨_, _, rfl, _⟩ := h; rfl) (fun cdv A outer s H vs Q E hr h => ?_)
  obtain ⟨S, p, rfl, kn, hS, pot, q⟩ := h
  refine ⟨_, (pss_cons (ps_asg (pe_tup (pa_cons (pe_call G__law_melting (hr.mono (by omega)) (by rfl) T.m__law_melting T.F__law_melting.kp T.b__law_melting .nil pass0 (pa_cons (pv 0) pa_nil)) (pa_cons (pe_call G__law_draw (hr.mono (by omega)) (by rfl) T.m__law_draw T.F__law_draw.kp T.b__law_draw .nil pass0 (pa_cons (pv 0) (pa_cons pe_int pa_nil))) pa_nil))) (pg_tup rfl (pgs_cons (pg_name (i := 1) sc__law_table.nd rfl (Or.inr rfl)) (pgs_cons (pg_name (i := 2) sc__law_table.nd rfl (Or.inl rfl)) pgs_nil))))
      (pss_cons (ps_if (pt_cmpR op_eq (pv 2) pe_int (nomark _))
        (pss_one (ps_set (i := 1) sc__law_table.nd rfl (Or.inr rfl) (pe_lc (own := [("_law_one", 4)]) (g := gName 4) (tt := tYes) rfl sc__law_table.nd (k_pi (K := K) (pv 1)) (blkOk_by (own := [("_law_one", 4)]) (N := _law_table_N) (sc := defScope _law_table_s) (by decide +kernel)) (fun _ _ _ _ _ => (pg_name (i := 4) sc__law_table.nd rfl (Or.inl rfl))) (fun _ _ _ _ _ => pts_nil) (fun _ _ _ _ _ => (pe_lc (own := [("_law_other", 5)]) (g := gName 5) (tt := tYes) rfl sc__law_table.nd (k_pi (K := K) (pv 1)) (show BlkOk _law_table_N (relS _ (defScope _law_table_s)) _ [("_law_other", 5)] from blkOk_by (by decide +kernel)) (fun _ _ _ _ _ => (pg_name (i := 5) sc__law_table.nd rfl (Or.inl rfl))) (fun _ _ _ _ _ => pts_nil) (fun _ _ _ _ _ => (pe_call G__law_draw (hr.mono (by omega)) (by rfl) T.m__law_draw T.F__law_draw.kp T.b__law_draw .nil pass0 (pa_cons (pv 0) (pa_cons (pe_callB (k_len (K := K)) (by rfl) T.z_len (by decide +kernel) (pa_cons (pv 1) pa_nil)) pa_nil))))))))) pss_nil)
      (pss_cons (ps_if (pt_cmpR (k_in (K := K)) (pv 2) (pe_lst (pa_cons pe_int (pa_cons pe_int pa_nil))) (by rfl))
        (pss_one (ps_for PassesOwn.never rfl (pi_range1 (by rfl) T.z_range (pa_cons (pv 2) pa_nil)) (pg_name (i := 3) sc__law_table.nd rfl (Or.inl rfl))
          (pss_one (ps_asg (pe_call G__law_draw (hr.mono (by omega)) (by rfl) T.m__law_draw T.F__law_draw.kp T.b__law_draw .nil pass0 (pa_cons (pv 0) (pa_cons (pe_callB (k_len (K := K)) (by rfl) T.z_len (by decide +kernel) (pa_cons (pv 1) pa_nil)) pa_nil))) (pg_sub (pe_ix (k_ix (K := K)) (pv 1) (pe_call G__law_draw (hr.mono (by omega)) (by rfl) T.m__law_draw T.F__law_draw.kp T.b__law_draw .nil pass0 (pa_cons (pv 0) (pa_cons (pe_callB (k_len (K := K)) (by rfl) T.z_len (by decide +kernel) (pa_cons (pv 1) pa_nil)) pa_nil))) (fun _ _ => rfl)) (pe_call G__law_draw (hr.mono (by omega)) (by rfl) T.m__law_draw T.F__law_draw.kp T.b__law_draw .nil pass0 (pa_cons (pv 0) (pa_cons (pe_callB (k_len (K := K)) (by rfl) T.z_len (by decide +kernel) (pa_cons (pv 1) pa_nil)) pa_nil))) set_list))))) pss_nil)
      (pss_one (ps_ret (pv 1)))))), ?_⟩
  refine s_seq (s_asgg (t_tup (a_cons (t_call1 (t_var rfl ⟨S, p, rfl, kn, hS, pot, fun u H1 H2 R sb1 pt1 s2 tb np => a_cons (t_call2 (t_var rfl (t_c ⟨p, 5, rfl, pt1.same s2, by decide, by decide, fun d H3 hd sb3 pt3 => a_nil ⟨le2, fun r hr => ?_⟩⟩)))⟩)))))
  have n1 := tb.pos
  have n7 := tb.few
  have pO : old H1 p := pt1.some
  have kn1 := kn_bt kn sb1 pt1.some
  have h0 : ∀ a, S a → old H1 a := kn1
  obtain ⟨b, rfl, mt⟩ := mat_np tb np
  have dR3 : Dp K (off S H3) (.ref b) (nLL R) := dp_same ((off_sb' h0).trans (off_bt hS sb3)) _ _ np.dp
  have mt3 := mt.but pO sb3
  have s4 := same_new (o := HO.tup [V.ref b, V.int (d : Nat)]) hr
  have sb13 : SameBut p H1 H3 := sb_trans (sbut s2) sb3
  have sb04 := sb_trans sb1 (sb_trans sb13 (sbut s4))
  have pt4 := pt3.same s4
  have mt4 := mt3.but pO (sbut s4)
  have dR4 := dp_same (off_same s4) _ _ dR3
  refine ⟨r, _, rfl, sqT upd_same, rfl, ?_⟩
  generalize upd H3 r (.tup [V.ref b, V.int (d : Nat)]) = H4 at *
  have kn4 := kn_bt kn sb04 pt4.some
  refine ⟨_, _, rfl, g_name ⟨_, _, rfl, g_name ⟨rfl, nx_of ?_⟩⟩⟩
  have fin : ∀ (x : V) (H5 : Hp) (x3 x4 x5 : Option V) (R5 : List (List Nat)), SameBut p H H5 → PotAt H5 p → Tb R5 → Dp K (off S H5) x (nLL R5) → Q x H5 := fun x H5 _ _ _ R5 sb pt tb d => q x H5 R5 sb pt tb d
  refine s_seq (s_if (b_test (t_op (t_var rfl (t_c ⟨rfl, _, rfl, if_b (fun c => ?_) (fun c => s_next ?_)⟩)))))
  · have e0 : d = 0 := by have := of_decide_eq_true c; have := V.int.inj this; omega
    subst e0
    refine s_set (lc_potO nL (K := K) (Pd := fun ds => ds = R.map nL) (Good := fun _ r => r.length = R.length ∧ ∀ m ∈ r, m < R.length) hS kn4 (fun Q q => t_var rfl (q _ _ _ (sbut (Same.refl _)) pt4 rfl dR4)) (fun ds e => by subst e; rw [List.length_map]; omega) (fun _ => rfl) (fun x dx H5 S5 sb5 pt5 kn5 hS5 _ _ so5 Q5 q5 => ?_) fun D5 H5 ds R5 sb5 pt5 ed hl good dR5 => nx_of ?_)
    · have dRo : Dp K (off S5 H5) (.ref b) (.list (R.map nL)) := dp_same so5 _ _ dR4
      refine lc_potO nD (K := K) (Pd := fun ds => ds = R.map nL) (Good := fun _ m => m < R.length) hS5 kn5 (fun Q q => t_var rfl (q _ _ _ (sbut (Same.refl _)) pt5 rfl dRo)) (fun ds e => by subst e; rw [List.length_map]; omega) (fun _ => rfl) (fun x6 dx6 H6 S6 sb6 pt6 kn6 hS6 _ _ so6 Q6 q6 => ?_) fun D6 H6 ds6 r6 sb6 pt6 ed6 hl6 good6 dr6 => ?_
      · exact t_call2 (t_var rfl (t_cb1 (t_var rfl (len_d off_sub (dp_same so6 _ _ dRo) rfl ⟨p, R.length, by rw [List.length_map], pt6, by omega, by omega, fun m H7 hm sb7 pt7 => q6 _ _ m sb7 pt7 hm (.int _)⟩))))
      · subst ed6
        rw [List.length_map] at hl6
        exact q5 _ _ r6 sb6 pt6 ⟨hl6, fun m hm => by
          obtain ⟨i, hi⟩ := List.mem_iff_getElem?.mp hm
          have il : i < R.length := by have := (List.getElem?_eq_some_iff.mp hi).1; omega
          exact good6 i (nL R[i]) m (by rw [List.getElem?_map, List.getElem?_eq_getElem il]; rfl) hi⟩ dr6
    subst ed
    rw [List.length_map] at hl
    have tb5 : Tb R5 := by
      have g : ∀ r ∈ R5, r.length = R.length ∧ ∀ m ∈ r, m < R.length := fun r hr => by
        obtain ⟨i, hi⟩ := List.mem_iff_getElem?.mp hr
        have il : i < R.length := by have := (List.getElem?_eq_some_iff.mp hi).1; omega
        exact good i (nL R[i]) r (by rw [List.getElem?_map, List.getElem?_eq_getElem il]; rfl) hi
      exact ⟨by omega, by omega, fun r hr => by rw [(g r hr).1, hl], fun r hr m hm => by rw [hl]; exact (g r hr).2 m hm⟩
    refine s_seq (s_if (b_test (t_op (t_var rfl (t_lst (a_cons (t_c (a_cons (t_c (a_nil ⟨le2, fun l6 hl6 => ?_⟩)))))))))) 
    refine ⟨l6, _, rfl, .inl (sqL upd_same), rfl, rfl, _, rfl, ifF (by decide) (s_next ?_)⟩
    have s6 := same_new (o := HO.lst [V.int 1, V.int 2]) hl6
    exact s_ret (t_var rfl (q _ _ R5 (sb_trans sb04 (sb_trans sb5 (sbut s6))) (pt5.same s6) tb5 (dp_same (off_same s6) _ _ dR5)))
  refine s_seq (s_if (b_test (t_op (t_var rfl (t_lst (a_cons (t_c (a_cons (t_c (a_nil ⟨le2, fun l6 hl6 => ?_⟩))))))))))
  have s6 := same_new (o := HO.lst [V.int 1, V.int 2]) hl6
  have sb6 := sb_trans sb04 (sbut s6)
  have pt6 := pt4.same s6
  have mt6 := mt4.but pO (sbut s6)
  refine ⟨l6, _, rfl, .inl (sqL upd_same), rfl, rfl, _, rfl, if_b (fun c => ?_) (fun c => s_next ?_)⟩
  · generalize upd H4 l6 (.lst [V.int 1, V.int 2]) = H6 at *
    show iRng1 (tCons _ tNil) _ _ _
    refine r_rng1 (a_cons (t_var rfl (a_nil ⟨(d : Int), rfl, by omega, by omega, ?_⟩)))
    refine for_it walk_range (fun i σ' H' => ∃ (x3 x4 x5 : Option V), σ' = [some (.ref p), some (.ref b), some (.int (d : Nat)), x3, x4, x5] ∧ Mat (old H1) H' b R.length ∧ SameBut p H H' ∧ PotAt H' p)
      ⟨_, _, _, rfl, mt6, sb6, pt6⟩ (fun _ _ _ _ _ => trivial) ?_ ?_
    · rintro i x0 σ' Ha Hb hi ⟨x3, x4, x5, rfl, mtA, sbA, ptA⟩ ⟨rfl, rfl⟩
      have knA := kn_bt kn sbA ptA.some
      have len : ∀ {H' : Hp} {Q' : VK}, Mat (old H1) H' b R.length → Q' (.int (R.length : Nat)) H' → Kh.rLen K [.ref b] H' Q' := fun {H' Q'} m q => by
        obtain ⟨xs, hb, _, l, _⟩ := m
        exact ⟨b, xs, rfl, .inl (sqL hb), by rw [l]; exact q⟩
      refine g_name (s_asgg (t_call2 (t_var rfl (t_cb1 (t_var rfl (len mtA ⟨p, R.length, rfl, ptA, by omega, by omega, fun m HB hm sbB ptB => ?_⟩))))))
      have mtB := mtA.but pO sbB
      refine t_op (t_var rfl (t_call2 (t_var rfl (t_cb1 (t_var rfl (len mtB ⟨p, R.length, rfl, ptB, by omega, by omega, fun i1 HC hi1 sbC ptC => ?_⟩))))))
      have mtC := mtB.but pO sbC
      obtain ⟨xs, c, ns, hb, hx, nc, ln, put⟩ := mtC.put pO hi1
      refine .inl ⟨b, xs, ((i1 : Nat) : Int), .ref c, rfl, rfl, sqL hb, atI_nat hx, ?_⟩
      refine t_call2 (t_var rfl (t_cb1 (t_var rfl (len mtC ⟨p, R.length, rfl, ptC, by omega, by omega, fun j1 HD hj1 sbD ptD => ?_⟩))))
      obtain ⟨hcD, put⟩ := put HD sbD
      have mtE := put j1 m hj1 hm
      have cp : p ≠ c := fun z => nc (z ▸ pO)
      have hcn : H c = none := by
        cases e : H c with
        | none => rfl
        | some o => exact (nc (some_ne (sb1 _ _ (Ne.symm cp) e))).elim
      have sbE := sb_trans (sb_trans sbA sbB) (sb_trans sbC sbD)
      refine ⟨c, _, _, j1, rfl, rfl, hcD, ixN_ok (by unfold ivs; rw [List.length_map]; omega), nx_of ?_⟩
      refine ⟨_, _, _, rfl, mtE, fun z o hz e => ?_, ?_⟩
      · rw [upd_ne (ne_of_none e hcn)]
        exact sbE z o hz e
      · obtain ⟨x, y, h, hy⟩ := ptD
        exact ⟨x, y, by rw [upd_ne cp]; exact h, hy⟩
    · rintro σ' H' ⟨x3, x4, x5, rfl, mtA, sbA, ptA⟩
      obtain ⟨R5, tb5, _, d5⟩ := mtA.rows (K := K) h0 n1 n7
      exact nx_of (s_ret (t_var rfl (q _ _ R5 sbA ptA tb5 d5)))
  · obtain ⟨R5, tb5, _, d5⟩ := mt6.rows (K := K) h0 n1 n7
    exact s_ret (t_var rfl (q _ _ R5 sb6 pt6 tb5 d5))
end
end K31

set_option maxRecDepth 100000
set_option maxHeartbeats 4000000
namespace K31
open PySem PySem.Spec PyProof.Rows L2 Kh
/-- ones and noughts told as truths -/
def tru : PyData → PyData
  | .tuple [a, b] => .tuple [tru a, tru b]
  | .int i => if i < 2 then .bool (decide (i = 1)) else .int i
  | d => d
theorem tru_pair (a b : PyData) : tru (.tuple [a, b]) = .tuple [tru a, tru b] := by rw [tru]
theorem tru_int (i : Int) : tru (.int i) = if i < 2 then .bool (decide (i = 1)) else .int i := by rw [tru]
theorem tru_one {i : Int} : isPair (tru (.int i)) = false := by rw [tru_int]; split <;> rfl
/-- alike in size -/
structure Szs (d e : PyData) : Prop where
  can : d.canLay0 = true → e.canLay0 = true
  dep : e.depth = d.depth
  sz : msz e = msz d
  dp : mdp e = mdp d
theorem szs_pair {a b c d : PyData} (h1 : Szs a c) (h2 : Szs b d) : Szs (.tuple [a, b]) (.tuple [c, d]) where
  can := fun h => by
    have := can_pair h
    rw [PyData.canLay0, PyData.canLayAll0, PyData.canLayAll0, PyData.canLayAll0, h1.can this.1, h2.can this.2]; rfl
  dep := by rw [PyData.depth, PyData.depthAll, PyData.depthAll, PyData.depthAll, PyData.depth, PyData.depthAll, PyData.depthAll, PyData.depthAll, h1.dep, h2.dep]
  sz := by rw [msz_pair, msz_pair, h1.sz, h2.sz]
  dp := by rw [mdp_pair, mdp_pair, h1.dp, h2.dp]
theorem szs_int (i : Int) : Szs (.int i) (tru (.int i)) := by
  rw [tru_int]
  split
  · exact ⟨fun _ => rfl, by rw [PyData.depth, PyData.depth], rfl, rfl⟩
  · exact ⟨id, rfl, rfl, rfl⟩
theorem szs_tru {m : Nat} : ∀ (d : PyData), meltA m d = true → Szs d (tru d)
  | .tuple [a, b], h => by
    have := meltA_pair.mp h
    rw [tru_pair]
    exact szs_pair (szs_tru a this.1) (szs_tru b this.2)
  | .int i, h => szs_int i
  | .bool _, h => by have := (meltA_one rfl h).1; cases this
  | .none, h => by have := (meltA_one rfl h).1; cases this
  | .str _, h => by have := (meltA_one rfl h).1; cases this
  | .list _, h => by have := (meltA_one rfl h).1; cases this
  | .dict _, h => by have := (meltA_one rfl h).1; cases this
  | .tuple [], h => by have := (meltA_one rfl h).1; cases this
  | .tuple [_], h => by have := (meltA_one rfl h).1; cases this
  | .tuple (_ :: _ :: _ :: _), h => by have := (meltA_one rfl h).1; cases this
section
variable {P : Program} {w : World} {K : PySem.W.Frag} {mg : Str → Option Value} {base : Heap} {a : Nat → Addr} {fd : Nat → FuncData} {C : Addr} {tk : Nat → Tok}
abbrev spTruths (K : PySem.W.Frag) (k : Nat) : Sp := spP K eV (fun x => meltA x.1 x.2 = true ∧ mdp x.2 < k) fun x => tru x.2
/-- halved and halved again -/
structure Evn (ns : List Nat) (k : Nat) (d : PyData) : Prop where
  lf : leafs d = ns.map nD
  dp : mdp d ≤ k
  sz : msz d + 1 ≤ 2 * ns.length
  las : ∀ R, (∀ i j, i < 2 → j < 2 → at_ R i j = j) → (∀ n ∈ ns, n < 2) → res R d < 2 ∧ ∀ h : ns ≠ [], res R d = ns.getLast h
def spEven (K : PySem.W.Frag) (k : Nat) : Sp := fun vs H Q _ => ∃ (S : Addr → Prop) (v : V) (ns : List Nat), vs = [v] ∧ Kn S H ∧ Dp K (off S H) v (nL ns) ∧ 1 ≤ ns.length ∧ 2 * ns.length ≤ 2 ^ k ∧ ns.length ≤ 1000 ∧ ∀ u H' d, Same H H' → Dp K (off S H') u d → Evn ns k d → Q u H'
theorem evn_one (n k : Nat) : Evn [n] k (nD n) where
  lf := leafs_nD n
  dp := by rw [mdp_nD]; exact Nat.zero_le _
  sz := by rw [msz_nD]; simp
  las := fun R _ h => by
    rw [res_nD]
    exact ⟨h n (by simp), fun _ => rfl⟩
theorem evn_two {ns : List Nat} {m k : Nat} {a b : PyData} (h1 : 1 ≤ m) (h2 : m < ns.length) (ha : Evn (ns.take m) k a) (hb : Evn (ns.drop m) k b) : Evn ns (k + 1) (p2 a b) where
  lf := by
    unfold p2
    rw [leafs_pair, ha.lf, hb.lf, ← List.map_append, List.take_append_drop]
  dp := by
    unfold p2
    rw [mdp_pair]
    have := ha.dp; have := hb.dp
    omega
  sz := by
    unfold p2
    rw [msz_pair]
    have h3 := ha.sz; have h4 := hb.sz
    rw [List.length_take] at h3
    rw [List.length_drop] at h4
    omega
  las := fun R hR hn => by
    unfold p2
    rw [res_pair]
    have r1 := (ha.las R hR fun n h => hn n (List.mem_of_mem_take h)).1
    have r2 := hb.las R hR fun n h => hn n (List.mem_of_mem_drop h)
    rw [hR _ _ r1 r2.1]
    refine ⟨r2.1, fun h => ?_⟩
    have ne : ns.drop m ≠ [] := fun e => by
      have := congrArg List.length e
      rw [List.length_drop] at this
      simp at this
      omega
    rw [r2.2 ne, List.getLast_drop]
end
end K31

set_option maxRecDepth 100000
set_option maxHeartbeats 4000000
namespace K31
open PySem PySem.Spec PyProof.Rows L2 Kh
def T2 : List (List Nat) := [[0, 1], [0, 1]]
theorem tb2 : Tb T2 := ⟨by decide, by decide, by decide, by decide⟩
theorem at_T2 : ∀ i j, i < 2 → j < 2 → at_ T2 i j = j := by
  intro i j hi hj
  have : i = 0 ∨ i = 1 := by omega
  have : j = 0 ∨ j = 1 := by omega
  rcases ‹i = 0 ∨ i = 1› with rfl | rfl <;> rcases ‹j = 0 ∨ j = 1› with rfl | rfl <;> rfl
theorem repN {k : Nat} (c : Nat) : (List.replicate ((k : Nat) : Int).toNat [V.int (c : Nat)]).flatten = (List.replicate k c).map fun n : Nat => V.int (n : Nat) := by
  rw [Int.toNat_natCast]
  induction k with
  | zero => rfl
  | succ k ih => simp only [List.replicate_succ, List.flatten_cons, List.map_cons]; rw [ih]; rfl
section
variable {P : Program} {w : World} {K : PySem.W.Frag} {mg : Str → Option Value} {base : Heap} {a : Nat → Addr} {fd : Nat → FuncData} {C : Addr} {tk : Nat → Tok}
/-- [c] * k + [e] -/
theorem t_repcat {S : Addr → Prop} {H : Hp} {σ : L2.St} {Q : VK} {tk : TE} (c e k : Nat) (kn : Kn S H) (hk : k ≤ 1000) (hc : ∀ (H' : Hp) (Q : VK), Q (.int (k : Nat)) H' → tk σ H' Q)
    (q : ∀ u H', Same H H' → Dp K (off S H') u (nL (List.replicate k c ++ [e])) → Q u H') :
    tOp (rCatS K) (tOp rRep (tLst (tCons (tC (.int (c : Nat))) tNil)) tk) (tLst (tCons (tC (.int (e : Nat))) tNil)) σ H Q := by
  refine t_op (t_op (t_lst (a_cons (t_c (a_nil ⟨le1, fun p1 h1 => hc _ _ ?_⟩)))))
  have s1 := same_new (o := HO.lst [V.int (c : Nat)]) h1
  refine ⟨p1, ((k : Nat) : Int), _, rfl, rfl, upd_same, by omega, by omega, ?_, fun D hD => ?_⟩
  · rw [Int.toNat_natCast]
    show 1 * _ ≤ sizeLine
    exact Nat.le_trans (by omega) (show 1000 ≤ sizeLine by decide)
  rw [repN]
  have kn1 := kn.same s1
  have d2 := dp_newL (K := K) (ds := (List.replicate k c).map nD) kn1 hD (nats_dpa _)
  have s2 := same_new (o := HO.lst ((List.replicate k c).map fun n : Nat => V.int (n : Nat))) hD
  refine t_lst (a_cons (t_c (a_nil ⟨le1, fun p3 h3 => ?_⟩)))
  have kn2 := kn1.same s2
  have s3 := same_new (o := HO.lst [V.int (e : Nat)]) h3
  have d3 := dp_newL (K := K) (ds := [nD e]) kn2 h3 (.cons (.int _) .nil)
  refine cat_d (kn2.same s3) (dp_same (off_same s3) _ _ d2) d3 (by rw [List.length_map, List.length_replicate]; simp; omega) fun u H' s4 d4 => q u H' (((s1.trans s2).trans s3).trans s4) ?_
  have : (List.replicate k c).map nD ++ [nD e] = (List.replicate k c ++ [e]).map nD := by rw [List.map_append]; rfl
  rw [this] at d4
  exact d4
def spLong : Sp := fun vs H Q _ => ∃ (S : Addr → Prop) (p : Addr), vs = [.ref p] ∧ Kn S H ∧ S p ∧ PotAt H p ∧ ∀ H', SameBut p H H' → PotAt H' p → Q (.bl true) H'
theorem evn_ok {ns : List Nat} {k : Nat} {d : PyData} (h : Evn ns k d) (h2 : ∀ n ∈ ns, n < 2) (l : ns.length ≤ 40) : meltOk T2.length d = true := by
  unfold meltOk meltA
  rw [h.lf, List.length_map, decide_eq_true l, Bool.and_true, List.all_eq_true]
  intro x hx
  obtain ⟨n, hn, rfl⟩ := List.mem_map.mp hx
  exact below_ok (h2 n hn)
end
end K31

set_option maxRecDepth 100000
set_option maxHeartbeats 4000000
namespace K31
open PySem PySem.Spec PyProof.Rows L2 Kh
/-- what is told anew by an expression -/
def EvD (K : PySem.W.Frag) (S : Addr → Prop) (H0 : Hp) (σ : L2.St) (te : TE) (d : PyData) : Prop := ∀ H1, Same H0 H1 → ∀ Q : VK, (∀ u H', Same H1 H' → Dp K (off S H') u d → Q u H') → te σ H1 Q
def EvA (K : PySem.W.Frag) (S : Addr → Prop) (H0 : Hp) (σ : L2.St) (ta : TA) (ds : List PyData) : Prop := ∀ H1, Same H0 H1 → ∀ q : List V → Hp → Prop, (∀ us H', Same H1 H' → DpAll K (off S H') us ds → q us H') → ta σ H1 q
section
variable {K : PySem.W.Frag} {S : Addr → Prop} {H0 : Hp} {σ : L2.St}
theorem ev_int (i : Int) : EvD K S H0 σ (tC (.int i)) (.int i) := fun H1 s Q q => t_c (q _ _ (Same.refl _) (.int _))
theorem ev_non : EvD K S H0 σ (tC .non) .none := fun H1 s Q q => t_c (q _ _ (Same.refl _) .non)
theorem ev_str (x : Str) : EvD K S H0 σ (tC (.str x)) (.str x) := fun H1 s Q q => t_c (q _ _ (Same.refl _) (.str _))
theorem ev_var {i : Nat} {v : V} {d : PyData} (hi : σ[i]? = some (some v)) (h : Dp K (off S H0) v d) : EvD K S H0 σ (tVar i) d := fun H1 s Q q => t_var hi (q _ _ (Same.refl _) (dp_same (off_same s) _ _ h))
theorem ea_nil : EvA K S H0 σ tNil [] := fun H1 s q k => a_nil (k _ _ (Same.refl _) .nil)
theorem ea_cons {te : TE} {ta : TA} {d : PyData} {ds : List PyData} (h : EvD K S H0 σ te d) (h2 : EvA K S H0 σ ta ds) : EvA K S H0 σ (tCons te ta) (d :: ds) := fun H1 s q k =>
  a_cons (h H1 s _ fun u H2 s2 d2 => h2 H2 (s.trans s2) _ fun us H3 s3 d3 => k _ _ (s2.trans s3) (.cons (dp_same (off_same s3) _ _ d2) d3))
theorem ev_tup {ta : TA} {ds : List PyData} (kn : Kn S H0) (h : EvA K S H0 σ ta ds) (l : ds.length ≤ 100) : EvD K S H0 σ (tTup ta) (.tuple ds) := fun H1 s Q q =>
  t_tup (h H1 s _ fun us H2 s2 d2 => ⟨by rw [dpa_len d2]; exact Nat.le_trans l (by decide), fun r hr => q _ _ (s2.trans (same_new hr)) (dp_newT (kn.same (s.trans s2)) hr d2)⟩)
theorem ev_lst {ta : TA} {ds : List PyData} (kn : Kn S H0) (h : EvA K S H0 σ ta ds) (l : ds.length ≤ 100) : EvD K S H0 σ (tLst ta) (.list ds) := fun H1 s Q q =>
  t_lst (h H1 s _ fun us H2 s2 d2 => ⟨by rw [dpa_len d2]; exact Nat.le_trans l (by decide), fun r hr => q _ _ (s2.trans (same_new hr)) (dp_newL (kn.same (s.trans s2)) hr d2)⟩)
theorem ev_cat {t1 t2 : TE} {ds es : List PyData} (kn : Kn S H0) (h : EvD K S H0 σ t1 (.list ds)) (h2 : EvD K S H0 σ t2 (.list es)) (l : ds.length + es.length ≤ 100000) : EvD K S H0 σ (tOp (rCatS K) t1 t2) (.list (ds ++ es)) := fun H1 s Q q =>
  t_op (h H1 s _ fun u H2 s2 d2 => h2 H2 (s.trans s2) _ fun v H3 s3 d3 => cat_d (kn.same ((s.trans s2).trans s3)) (dp_same (off_same s3) _ _ d2) d3 l fun w H4 s4 d4 => q _ _ ((s2.trans s3).trans s4) d4)
theorem ev_call {α : Type} {enc : α → List PyData} {pre : α → Prop} {f : α → PyData} {ta : TA} (x : α) (kn : Kn S H0) (h : EvA K S H0 σ ta (enc x)) (hp : pre x) : EvD K S H0 σ (tCall (spP K enc pre f) [] E0 ta) (f x) := fun H1 s Q q =>
  show ta σ H1 (fun us H2 => spP K enc pre f (us ++ []) H2 Q E0) from h H1 s _ fun us H2 s2 d2 => ⟨S, x, kn.same (s.trans s2), by rw [List.append_nil]; exact d2, hp, fun v H' s' d' => q v H' (s2.trans s') d'⟩
end
/-- of few parts, not deep -/
structure Sml (d : PyData) (k n : Nat) : Prop where
  can : d.canLay0 = true
  dep : d.depth ≤ k
  sz : msz d ≤ n
  dp : mdp d ≤ k
theorem Sml.le {d : PyData} {k n k' n' : Nat} (h : Sml d k n) (hk : k ≤ k') (hn : n ≤ n') : Sml d k' n' := ⟨h.can, Nat.le_trans h.dep hk, Nat.le_trans h.sz hn, Nat.le_trans h.dp hk⟩
theorem Sml.thg {d : PyData} {k n : Nat} (h : Sml d k n) (hk : k ≤ 20) (hn : n ≤ 10000) : Thg d := ⟨h.can, Nat.le_trans h.dep (by omega), Nat.le_trans h.sz hn, Nat.le_trans h.dp hk⟩
theorem sml_pair {a b : PyData} {k n n' : Nat} (h1 : Sml a k n) (h2 : Sml b k n') : Sml (.tuple [a, b]) (k + 1) (1 + n + n') where
  can := by rw [PyData.canLay0, PyData.canLayAll0, PyData.canLayAll0, PyData.canLayAll0, h1.can, h2.can]; rfl
  dep := by
    rw [PyData.depth, PyData.depthAll, PyData.depthAll, PyData.depthAll]
    have := h1.dep; have := h2.dep
    omega
  sz := by rw [msz_pair]; have := h1.sz; have := h2.sz; omega
  dp := by rw [mdp_pair]; have := h1.dp; have := h2.dp; omega
theorem sml_lst {a b : PyData} {k n n' : Nat} (h1 : Sml a k n) (h2 : Sml b k n') : Sml (.list [a, b]) (k + 1) 1 where
  can := by rw [PyData.canLay0, PyData.canLayAll0, PyData.canLayAll0, PyData.canLayAll0, h1.can, h2.can]; rfl
  dep := by
    rw [PyData.depth, PyData.depthAll, PyData.depthAll, PyData.depthAll]
    have := h1.dep; have := h2.dep
    omega
  sz := by rw [msz_one rfl]; exact Nat.le_refl _
  dp := by rw [mdp_one rfl]; exact Nat.zero_le _
theorem sml_int (i : Int) : Sml (.int i) 0 1 := ⟨rfl, by rw [PyData.depth]; exact Nat.le_refl _, by rw [msz_one rfl]; exact Nat.le_refl _, by rw [mdp_one rfl]; exact Nat.le_refl _⟩
theorem sml_non : Sml .none 0 1 := ⟨rfl, by rw [PyData.depth]; exact Nat.le_refl _, by rw [msz_one rfl]; exact Nat.le_refl _, by rw [mdp_one rfl]; exact Nat.le_refl _⟩
theorem melt_sml {m : Nat} : ∀ (d : PyData), meltA m d = true → d.canLay0 = true ∧ d.depth ≤ mdp d
  | .tuple [a, b], h => by
    have h0 := meltA_pair.mp h
    have h1 := melt_sml a h0.1
    have h2 := melt_sml b h0.2
    refine ⟨by rw [PyData.canLay0, PyData.canLayAll0, PyData.canLayAll0, PyData.canLayAll0, h1.1, h2.1]; rfl, ?_⟩
    rw [PyData.depth, PyData.depthAll, PyData.depthAll, PyData.depthAll, mdp_pair]
    have := h1.2; have := h2.2
    omega
  | .int i, h => ⟨rfl, by rw [PyData.depth]; exact Nat.zero_le _⟩
  | .bool _, h => by have := (meltA_one rfl h).1; cases this
  | .none, h => by have := (meltA_one rfl h).1; cases this
  | .str _, h => by have := (meltA_one rfl h).1; cases this
  | .list _, h => by have := (meltA_one rfl h).1; cases this
  | .dict _, h => by have := (meltA_one rfl h).1; cases this
  | .tuple [], h => by have := (meltA_one rfl h).1; cases this
  | .tuple [_], h => by have := (meltA_one rfl h).1; cases this
  | .tuple (_ :: _ :: _ :: _), h => by have := (meltA_one rfl h).1; cases this
theorem Drn.sml {m : Nat} {d : PyData} (h : Drn m d) : Sml d 6 12 := ⟨h.grp.can, Nat.le_trans h.grp.dep h.few, h.sz, h.dp⟩
theorem PartOf.smlA {R : List (List Nat)} {a b : PyData} (h : PartOf R a b) : Sml a 2 5 := ⟨(melt_sml a h.oka).1, Nat.le_trans (melt_sml a h.oka).2 h.da, h.sa, h.da⟩
theorem PartOf.smlB {R : List (List Nat)} {a b : PyData} (h : PartOf R a b) : Sml b 2 5 := ⟨(melt_sml b h.okb).1, Nat.le_trans (melt_sml b h.okb).2 h.db, h.sb, h.db⟩
theorem Sml.tru {m : Nat} {d : PyData} {k n : Nat} (h : Sml d k n) (ok : meltA m d = true) : Sml (tru d) k n := by
  have z := szs_tru d ok
  exact ⟨z.can h.can, by rw [z.dep]; exact h.dep, by rw [z.sz]; exact h.sz, by rw [z.dp]; exact h.dp⟩
def z00 : PyData := .tuple [.int 0, .int 0]
def base8 : List PyData := [.none, .int 0, .tuple [], z00, .list [.int 0, .int 0], .tuple [z00, .int 0], .tuple [.int 0, z00, .int 0], .str "00"]
theorem base8_thg : ∀ d ∈ base8, Thg d := by
  intro d hd
  unfold base8 z00 at hd
  simp only [List.mem_cons, List.not_mem_nil, or_false] at hd
  rcases hd with rfl | rfl | rfl | rfl | rfl | rfl | rfl | rfl <;> exact ⟨by decide +kernel, by decide +kernel, by decide +kernel, by decide +kernel⟩
end K31

set_option maxRecDepth 100000
set_option maxHeartbeats 4000000
namespace K31
open PySem PySem.Spec PyProof.Rows L2 Kh
open LamX (ExtN Tabs TabS TabB CodeO GivesTo LamS lamEnv lamCx)
/-- a def that makes lambdas: its code, its table -/
def Lm (base : Heap) (mg : Str → Option Value) (Ts : List (Addr × Str)) (fd : FuncData) (qual : Str) : Prop := ∃ c P, fd.code = .ref c ∧ TabB base mg c P ∧ (P, (qual ++ ".<locals>.") ++ "<lambda>") ∈ Ts ∧ ∀ p ∈ Ts, p.1 = P → p.2 = (qual ++ ".<locals>.") ++ "<lambda>"
def d2 : PyData := .tuple [.int 0, .int 0]
def d5 : PyData := .tuple [.tuple [d2, d2], .int 0]
def d10 : PyData := .tuple [d5, d5]
def d40 : PyData := .tuple [.tuple [d10, d10], .tuple [d10, d10]]
def d41 : PyData := .tuple [d40, .int 0]
theorem l40 : leafs d40 = List.replicate 40 (nD 0) := by rfl
theorem l41 : leafs d41 = List.replicate 41 (nD 0) := by rfl
theorem ok40 {m : Nat} (h : 0 < m) : meltOk m d40 = true := by
  unfold meltOk meltA
  rw [l40, Bool.and_eq_true, List.all_eq_true]
  refine ⟨fun d hd => ?_, by decide⟩
  rw [(List.mem_replicate.mp hd).2]
  exact below_ok h
theorem no41 (m : Nat) : meltOk m d41 = false := by
  unfold meltOk
  rw [l41, Bool.and_eq_false_iff]
  exact .inr (by decide)
theorem tls41 : Tls d41 := .inr ⟨100000, 20, ⟨by decide +kernel, by decide +kernel, by decide +kernel, by decide +kernel, by decide +kernel, by decide +kernel⟩, by decide, by decide⟩
theorem ok41 : okS d41.shown := okS_shown d41 (by decide +kernel)
section
variable {P : Program} {w : World} {K : PySem.W.Frag} {mg : Str → Option Value} {base : Heap} {a : Nat → Addr} {fd : Nat → FuncData} {C : Addr} {tk : Nat → Tok} {CS CT CV CM : Addr} {Ts : List (Addr × Str)}
def spManyR (K : PySem.W.Frag) (C : Addr) (Ts : List (Addr × Str)) : Sp := fun vs H Q _ => ∃ (S : Addr → Prop) (R : List (List Nat)) (x : Addr) (v : V), vs = [.ref x, v] ∧ Wd Ts S H ∧ TabAt K C (off S H) R x ∧ Tb R ∧ Dp K (off S H) v (nLL R) ∧ ∀ H', ExtN H H' → Tabs Ts H' → Q (.bl true) H'
theorem ok__law_many_right (T : Txt K mg a fd C tk) (U : TxC K mg a C) (R : TxR K mg a fd CS CT CV CM) (L : Lm base mg Ts (fd 30) "_law_many_right") : FnG P w K mg base 40 (a 30) (fd 30) ["_law_table_here", "_law_rows"] (spManyR K C Ts) := by
  obtain ⟨c, Pt, hcode, TB, hmT, hu⟩ := L
  have G_is_melt := ok_is_melt (P := P) (w := w) (base := base) T U
  have G_result := ok_result (P := P) (w := w) (base := base) T U
  have G_resultX := ok_resultX (P := P) (w := w) (base := base) T U R
  have G__law_result := ok__law_result (P := P) (w := w) (base := base) T 20
  refine fun_okC T.F__law_many_right sc__law_many_right (fun vs H Q E h => by obtain ⟨_, _, _, _, rfl, _⟩ := h; rfl) (fun A outer s H vs Q E hg hr h => ?_)
  obtain ⟨S, RR, x, v, rfl, wd, ht, tb, hv, q⟩ := h
  refine ⟨_, (pss_cons (ps_set (i := 2) sc__law_many_right.nd rfl (Or.inl rfl) (pe_tup (pa_cons (pe_tup (pa_cons (pe_tup (pa_cons pe_int (pa_cons pe_int pa_nil))) (pa_cons (pe_tup (pa_cons pe_int (pa_cons pe_int pa_nil))) pa_nil))) (pa_cons pe_int pa_nil))))
      (pss_cons (ps_set (i := 3) sc__law_many_right.nd rfl (Or.inl rfl) (pe_tup (pa_cons (pv 2) (pa_cons (pv 2) pa_nil))))
      (pss_cons (ps_set (i := 4) sc__law_many_right.nd rfl (Or.inl rfl) (pe_tup (pa_cons (pe_tup (pa_cons (pv 3) (pa_cons (pv 3) pa_nil))) (pa_cons (pe_tup (pa_cons (pv 3) (pa_cons (pv 3) pa_nil))) pa_nil))))
      (pss_cons (ps_if (PW.pt (pw_or (pt_not (pt_val (pe_call G_is_melt (hr.mono (by omega)) (by rfl) T.m_is_melt T.F_is_melt.kp T.b_is_melt .nil pass0 (pa_cons (pv 0) (pa_cons (pv 4) pa_nil))))) (pw_or1 (pt_cmpR op_ne (pe_call G_result (hr.mono (by omega)) (by rfl) T.m_result T.F_result.kp T.b_result .nil pass0 (pa_cons (pv 0) (pa_cons (pv 4) pa_nil))) (pe_call G__law_result (hr.mono (by omega)) (by rfl) T.m__law_result T.F__law_result.kp T.b__law_result .nil pass0 (pa_cons (pv 1) (pa_cons (pv 4) pa_nil))) (nomark _)))))
        (pss_one (ps_ret pe_bl)) pss_nil)
      (pss_cons (ps_set (i := 5) sc__law_many_right.nd rfl (Or.inr rfl) (pe_tup (pa_cons (pv 4) (pa_cons pe_int pa_nil))))
      (pss_one (ps_ret (pe_and (pe_cmpR op_isX (pe_call G_is_melt (hr.mono (by omega)) (by rfl) T.m_is_melt T.F_is_melt.kp T.b_is_melt .nil pass0 (pa_cons (pv 0) (pa_cons (pv 5) pa_nil))) pe_bl (nomark _)) (pe_one (pe_cmpR (k_eqD (K := K) hr.units) (pe_heard (k := 29) T R hg TB hcode hmT hu (hr.mono (by omega)) (LamX.lamS_by (sc := defScope _law_many_right_s) (by decide +kernel)) (fun _ _ _ _ _ _ _ hr2 => (pe_call G_resultX (hr2.mono (by omega)) (by rfl) T.m_result T.F_result.kp T.b_result .nil (passes_call (takes_of rfl rfl rfl rfl) fun _ _ _ _ h => h) (pa_cons (pv 0) (pa_cons (pv 5) pa_nil))))) (pe_lst (pa_cons pe_str (pa_cons (pe_callB (k_reprA (K := K) hg hr.units) (by rfl) T.z_repr (by decide +kernel) (pa_cons (pv 5) pa_nil)) (pa_cons pe_bl pa_nil)))) (nomark _))))))))))), ?_⟩
  have kn := wd.kn
  have e2 : ∀ (H0 : Hp) (τ : L2.St), Kn S H0 → EvD K S H0 τ (tTup (tCons (tC (.int 0)) (tCons (tC (.int 0)) tNil))) d2 := fun H0 τ kn => ev_tup kn (ea_cons (ev_int 0) (ea_cons (ev_int 0) ea_nil)) (by decide)
  refine s_seq (s_set ((ev_tup (ds := [.tuple [d2, d2], .int 0]) kn (ea_cons (ev_tup kn (ea_cons (e2 H _ kn) (ea_cons (e2 H _ kn) ea_nil)) (by decide)) (ea_cons (ev_int 0) ea_nil)) (by decide)) H (Same.refl _) _ fun u5 H1 s1 h5 => nx_of ?_))
  have kn1 := kn.same s1
  refine s_seq (s_set ((ev_tup (ds := [d5, d5]) kn1 (ea_cons (ev_var rfl h5) (ea_cons (ev_var rfl h5) ea_nil)) (by decide)) H1 (Same.refl _) _ fun u10 H2 s2 h10 => nx_of ?_))
  have kn2 := kn1.same s2
  refine s_seq (s_set ((ev_tup (ds := [.tuple [d10, d10], .tuple [d10, d10]]) kn2 (ea_cons (ev_tup (ds := [d10, d10]) kn2 (ea_cons (ev_var rfl h10) (ea_cons (ev_var rfl h10) ea_nil)) (by decide)) (ea_cons (ev_tup (ds := [d10, d10]) kn2 (ea_cons (ev_var rfl h10) (ea_cons (ev_var rfl h10) ea_nil)) (by decide)) ea_nil)) (by decide)) H2 (Same.refl _) _ fun u40 H3 s3 h40 => nx_of ?_))
  replace h40 : Dp K (off S H3) u40 d40 := h40
  have kn3 := kn2.same s3
  have s03 := (s1.trans s2).trans s3
  have ht3 := ht.same (off_same s03)
  have hv3 := dp_same (off_same s03) _ _ hv
  refine s_seq (s_if (b_or (b_not (b_val (t_call2 (t_var rfl (t_var rfl ⟨S, RR, x, d40, u40, rfl, kn3, ht3, tb, h40, by decide +kernel, fun H4 s4 => ⟨_, rfl, ifF (by rw [ok40 tb.pos]; rfl) ?_⟩⟩)))))))
  have kn4 := kn3.same s4
  have ht4 := ht3.same (off_same s4)
  have h40' := dp_same (off_same s4) _ _ h40
  have hv4 := dp_same (off_same s4) _ _ hv3
  have okA : meltA RR.length d40 = true := by have := ok40 tb.pos; unfold meltOk at this; rw [Bool.and_eq_true] at this; exact this.1
  refine b_test (t_op (t_call2 (t_var rfl (t_var rfl ⟨S, RR, x, d40, u40, rfl, kn4, ht4, tb, h40', ok40 tb.pos, by decide +kernel, by decide +kernel, fun H5 s5 => ?_⟩))))
  refine t_call2 (t_var rfl (t_var rfl ⟨S, (RR, d40), kn4.same s5, .cons (dp_same (off_same s5) _ _ hv4) (.cons (dp_same (off_same s5) _ _ h40') .nil), ⟨tb, show mdp d40 < 20 by decide +kernel, okA⟩, fun z H6 s6 dz => ?_⟩))
  replace dz : Dp K (off S H6) z (nD (res RR d40)) := dz
  cases dz
  refine ⟨rfl, _, rfl, ifF (by simp) (s_next ?_)⟩
  have s46 := s5.trans s6
  have kn6 := kn4.same s46
  have s06 := s03.trans (s4.trans s46)
  refine s_seq (s_set ((ev_tup (ds := [d40, .int 0]) kn6 (ea_cons (ev_var rfl (dp_same (off_same s46) _ _ h40')) (ea_cons (ev_int 0) ea_nil)) (by decide)) H6 (Same.refl _) _ fun u41 H7 s7 h41 => nx_of ?_))
  replace h41 : Dp K (off S H7) u41 d41 := h41
  have s07 := s06.trans s7
  have wd7 := wd.same s07
  have ht7 := ht.same (off_same s07)
  refine s_ret (t_andV (t_op (t_call2 (t_var rfl (t_var rfl ⟨S, RR, x, d41, u41, rfl, wd7.kn, ht7, tb, h41, by decide +kernel, fun H8 s8 => ?_⟩)))))
  rw [no41]
  refine t_c ⟨false, rfl, .inr ⟨_, rfl⟩, bl_ifT (t_op ?_)⟩
  have wd8 := wd7.same s8
  have ht8 := ht7.same (off_same s8)
  have h41' := dp_same (off_same s8) _ _ h41
  refine hd_err wd8 (E := CM) (f := "value") (wd := "melt") (x := d41) (by simp [hcs]) tls41 (fun H9 Ec Qc k9 w9 hE => ?_) fun u HA e t du => ?_
  · refine t_call2 (t_var rfl (t_var rfl ⟨S, RR, x, d41, u41, rfl, w9.kn, ht8.kp k9, tb, k9.dp h41', by decide +kernel, .inr ⟨no41 _, fun dd H' s h => hE dd u41 H' s h (dp_same (off_same s) _ _ (k9.dp h41'))⟩⟩))
  · have wA := wd8.ext e t
    have h41A := (Kp.ext e).dp h41'
    refine t_lst (a_cons (t_c (a_cons (t_cb1 (t_var rfl ⟨_, d41, rfl, ⟨dp_same off_sub _ _ h41A, tls41⟩, a_cons (t_c (a_nil ⟨le3, fun p hp => ?_⟩))⟩)))))
    have sB := same_new (o := HO.lst [V.str "melt", V.str d41.shown, V.bl true]) hp
    have dB := dp_newL (K := K) (ds := [.str "melt", .str d41.shown, .bool true]) wA.kn hp (.cons (.str _) (.cons (.str _) (.cons (.bl _) .nil)))
    refine ⟨_, _, dp_same off_sub _ _ (dp_same (off_same sB) _ _ du), dp_same off_sub _ _ dB, told_sh (okS_of _) ok41, told_sh (okS_of _) ok41, ?_⟩
    rw [told_eqv]
    exact q _ (((ExtN.of s07).trans (ExtN.of s8)).trans (e.trans (ExtN.of sB))) ((wA.same sB).tab)
end
end K31

set_option maxRecDepth 100000
set_option maxHeartbeats 4000000
namespace K31
open PySem PySem.Spec PyProof.Rows L2 Kh
open LamX (ExtN Tabs TabS TabB CodeO GivesTo LamS lamEnv lamCx)
theorem eqvAll_nT : ∀ (A B : List (List Nat)), PyData.eqvAll (A.map nT) (B.map nT) = decide (A = B)
  | [], [] => by simp [PyData.eqvAll]
  | [], _ :: _ => by simp [PyData.eqvAll]
  | _ :: _, [] => by simp [PyData.eqvAll]
  | a :: A, b :: B => by
    rw [List.map_cons, List.map_cons, PyData.eqvAll, eqvAll_nT A B]
    have e : PyData.eqv (nT a) (nT b) = decide (a = b) := by
      unfold nT
      rw [PyData.eqv]
      exact eqvAll_nums a b
    rw [e]
    by_cases h1 : a = b <;> by_cases h2 : A = B <;> simp [h1, h2]
theorem eqv_tT2 (A B : List (List Nat)) : PyData.eqv (tT A) (tT B) = decide (A = B) := by
  unfold tT
  rw [PyData.eqv, eqvAll_nT]
theorem eqv_nLL2 (A B : List (List Nat)) : PyData.eqv (nLL A) (nLL B) = decide (A = B) := by
  unfold nLL
  rw [PyData.eqv]
  induction A generalizing B with
  | nil => cases B <;> simp [PyData.eqvAll]
  | cons a A ih =>
    cases B with
    | nil => simp [PyData.eqvAll]
    | cons b B =>
      rw [List.map_cons, List.map_cons, PyData.eqvAll, ih B, eqv_nums]
      by_cases h1 : a = b <;> by_cases h2 : A = B <;> simp [h1, h2]
theorem six_of {K : PySem.W.Frag} {H : Hp} {v : V} {d : PyData} (h : Dp K H v d) : tyN d ∈ ["NoneType", "bool", "int", "str", "list", "tuple"] := by
  cases h <;> simp [tyN]
/-- the table's class beside the built-in ones -/
structure TxQ (K : PySem.W.Frag) (a : Nat → Addr) (C : Addr) : Prop where
  oth : ∀ n ∈ ["NoneType", "bool", "int", "str", "list", "tuple"], PySem.W.kitOne K (.type n) (.ref C) = some false
  nf : ∀ n ∈ ["NoneType", "bool", "int", "str", "list", "tuple"], PySem.W.notFirst K C (.type n) = true
  ne : PySem.W.findIn K (.ref C) "__ne__" = some (some (.builtin "object.__ne__"))
  ob : PySem.W.subIn K (.ref C) (.type "object") = some true
  me_repr : Meth K C "__repr__" (a 10)
section
variable {K : PySem.W.Frag} {a : Nat → Addr} {C : Addr}
theorem ty_tab {S : Addr → Prop} {H : Hp} {R : List (List Nat)} {x : Addr} (h : TabAt K C (off S H) R x) : tyOk K H C (.ref x) := .inl (tab_isI h)
theorem ty_data {S : Addr → Prop} {H : Hp} {v : V} {d : PyData} (D : TxQ K a C) (h : Dp K (off S H) v d) : tyOk K H C v := .inr ⟨_, tyx_d (dp_same off_sub _ _ h), D.nf _ (six_of h)⟩
end
section
variable {P : Program} {w : World} {K : PySem.W.Frag} {mg : Str → Option Value} {base : Heap} {a : Nat → Addr} {fd : Nat → FuncData} {C : Addr} {tk : Nat → Tok} {CS CT CV CM : Addr} {Ts : List (Addr × Str)}
def spEqX (K : PySem.W.Frag) (C : Addr) : Sp := fun vs H Q _ => ∃ (S : Addr → Prop) (R : List (List Nat)) (x : Addr) (v : V), vs = [.ref x, v] ∧ Kn S H ∧ TabAt K C (off S H) R x ∧
  ((∃ R2 y, v = .ref y ∧ TabAt K C (off S H) R2 y ∧ ∀ H', Same H H' → Q (.bl (decide (R = R2))) H') ∨ (∃ d, Dp K (off S H) v d ∧ ∀ H', Same H H' → Q (.bl false) H'))
theorem ok_Table_eqX (T : Txt K mg a fd C tk) (U : TxC K mg a C) (D : TxD K C) (D2 : TxQ K a C) : FnOk P w K mg base CX0 2 (a 9) (fd 9) ["self", "other"] (spEqX K C) := by
  refine T.F_Table_eq.ok sc_Table_eq (fun vs H Q E h => by obtain ⟨_, _, _, _, rfl, _⟩ := h; rfl) (fun cdv A outer s H vs Q E hr h => ?_)
  obtain ⟨S, R, x, v, rfl, kn, hx, hcase⟩ := h
  refine ⟨_, (pss_one (ps_ret (pe_and (pe_callB (k_isi (K := K)) (by rfl) T.z_isinstance (by decide +kernel) (pa_cons (pv 1) (pa_cons (pe_glob (v := .ref _) (by rfl) U.m_Table rfl) pa_nil))) (pe_one (pe_cmpR (k_eqD (K := K) hr.units) (k_fld (K := K) (pv 0) rfl) (k_fld (K := K) (pv 1) rfl) (nomark _)))))), ?_⟩
  rcases hcase with ⟨R2, y, rfl, hy, q⟩ | ⟨d, hd, q⟩
  · refine s_ret (t_andV (t_cb2 (t_var rfl (t_c (isi_own U D hy (bl_ifT ?_))))))
    refine t_op (fld_rows U hx rfl fun v1 d1 => fld_rows U hy rfl fun v2 d2 => ⟨_, _, dp_same off_sub _ _ d1, dp_same off_sub _ _ d2, shaped_tT R, shaped_tT R2, ?_⟩)
    rw [eqv_tT2]
    exact q H (Same.refl _)
  · refine s_ret (t_andV (t_cb2 (t_var rfl (t_c ⟨_, _, .type (tyN d), .ref C, false, rfl, .own C, tyx_d (dp_same off_sub _ _ hd), D2.oth _ (six_of hd), bl_ifF ?_⟩))))
    exact q H (Same.refl _)
/-- rows() whose lists are new -/
def spRowsN (K : PySem.W.Frag) (C : Addr) : Sp := fun vs H Q _ => ∃ (S : Addr → Prop) (R : List (List Nat)) (x : Addr), vs = [.ref x] ∧ Kn S H ∧ TabAt K C (off S H) R x ∧ Tb R ∧ ∀ v H', Same H H' → Np (off (old H) H') v (nLL R) → Q v H'
theorem ok_Table_rowsN (T : Txt K mg a fd C tk) (U : TxC K mg a C) : FnOk P w K mg base CX0 1 (a 6) (fd 6) ["self"] (spRowsN K C) := by
  refine T.F_Table_rows.ok sc_Table_rows (fun vs H Q E h => by obtain ⟨_, _, _, rfl, _⟩ := h; rfl) (fun cdv A outer s H vs Q E hr h => ?_)
  obtain ⟨S, R, x, rfl, kn, ht, tb, q⟩ := h
  have p7 := tb.few
  refine ⟨_, (pss_one (ps_ret (pe_lc (own := [("row", 1)]) (g := gName 1) (tt := tYes) rfl sc_Table_rows.nd (k_pi (K := K) (k_fld (K := K) (pv 0) rfl)) (blkOk_by (own := [("row", 1)]) (N := Table_rows_N) (sc := defScope Table_rows_s) (by decide +kernel)) (fun _ _ _ _ _ => (pg_name (i := 1) sc_Table_rows.nd rfl (Or.inl rfl))) (fun _ _ _ _ _ => pts_nil) (fun _ _ _ _ _ => (pe_callTy (k_list (K := K)) (by rfl) T.z_list (by decide +kernel) (pa_cons (pv 1) pa_nil)))))), ?_⟩
  refine s_ret (lc_seqN (b := true) (ds := R.map nT) rp_np (fun j => nL (R.getD j [])) (old_of kn) kn_old (fun Q q => fld_rows U ht rfl fun v d => q v _ (Same.refl _) d) (by rw [List.length_map]; omega) (fun _ => rfl) (fun j y d H1 Sa Sb dj s1 hab kb dy hS Q q => ?_) fun D H1 ys hD s1 hd1 h1 => q _ _ s1 ?_)
  · obtain ⟨r, rj, rm, rfl⟩ := at_map dj
    have er : R.getD j [] = r := by rw [List.getD_eq_getElem?_getD, rj]; rfl
    refine t_cb1 (t_var rfl (list_d (fun b hb => kb b (hab b hb)) dy rfl fun l xs hl ha h => q _ _ (same_new hl) ?_))
    rw [er]
    rw [dpa_nats (ns := r) ha]
    exact .lst (by rw [off_out (kb.new hl)]; exact upd_same) (by simp) fun i z d h1 h2 => by
      simp only [List.getElem?_map] at h1 h2
      cases e : r[i]? with
      | none => rw [e] at h1; cases h1
      | some n => rw [e] at h1 h2; cases h1; cases h2; exact .int _
  · have e : ((List.range (R.map nT).length).map fun j => nL (R.getD j [])) = R.map nL := by
      rw [List.length_map]
      apply List.ext_getElem (by simp)
      intro i h1 h2
      simp only [List.getElem_map, List.getElem_range]
      rw [List.getD_eq_getElem?_getD, List.getElem?_eq_getElem (by simpa using h1)]; rfl
    rw [e] at h1
    exact h1
end
section
variable {X : Cx} {k n : Nat} {f C : Addr} {fd : FuncData} {ps ks : List Str} {sp : Sp} {m : Str} {pos apos : Pos} {o : Expr} {kws : List Keyword} {ta : TE} {tk : TA} {pl : Sem Bool}
def tMethKR (C : Addr) (m : Str) (n : Nat) (sp : Sp) (ta : TE) (tk : TA) : TE := fun σ H Q => ta σ H fun x H1 => ∃ a dx fs, x = .ref a ∧ H1 a = some (.ins C dx fs) ∧ fs.lookup m = none ∧ tk σ H1 fun zs H2 => zs.length = n ∧ sp (x :: zs.reverse) H2 Q E0
/-- o.m(k2 = v, k1 = u), the names the other way round -/
theorem pe_methKR (he : PE X o ta) (c : Cls X.K C) (hm : Meth X.K C m f) (F : FnOk X.prog X.w X.K X.mg X.base CX0 k f fd ps sp) (hr : Room k X.A) (hb : KBn X.K fd ps 1 ks (fun us ws => us ++ ws.reverse) (fun vs zs => vs ++ zs.reverse)) (hkw : PK X kws tk)
    (hall : (backToKw pos (keywordEach kws X.env)).all (·.1.isSome) = true := by rfl) (hks : (backToKw pos (keywordEach kws X.env)).filterMap (·.1) = ks := by rfl)
    (hpl : ((backTo pos (starEach [] X.env)).any (·.1) || (backToKw pos (keywordEach kws X.env)).any (·.1.isNone)) = false := by rfl)
    (ht : eval (.Call (.Attribute o m apos) [] kws pos) X.env = (do
      let ov ← eval o X.env; standAt apos.atName; let (f, first) ← holding [ov] (getMethod ov m pl); callWith pos f first (backTo pos (starEach [] X.env)) (backToKw pos (keywordEach kws X.env))) := by rfl) :
    PE X (.Call (.Attribute o m apos) [] kws pos) (tMethKR C m ks.length sp ta tk) := by
  refine ⟨fun pins s σ H Q I h => PySem.W.methodCall_KW (pl := pl) (thn (he.run pins s σ H _ I h) fun u z1 ⟨x, H1, I1, rx, b, dx, fs, ex, ea, l, q⟩ => ?_) ht⟩
  subst ex
  obtain rfl : u = Value.ref b := rx
  refine getmeth_ok I1 ea c hm l (PySem.W.callWith_KW0 (first := [.ref b]) (h₀ := X.base) I1.ok.mod.kin hm.kp hall ?_ hpl)
  refine thn (hkw.run pos pins z1 σ H1 _ I1 q) fun ws z2 ⟨zs, H2, I2, rz, l2, q2⟩ => ⟨I2.kIn, ?_⟩
  rw [hks]
  have rb : Vals [V.ref b] [Value.ref b] := .cons rfl .nil
  refine wpAny_call (codeAny_mono (F.run X.A X.stack z2 H2 ⟨[Value.ref b], ks.zip ws⟩ ([Value.ref b] ++ ws.reverse) ([V.ref b] ++ zs.reverse) Q E0 hr I2.env0 (hb.to z2 [.ref b] ws I2.kIn rfl (rz.length.symm.trans l2)) (hb.rel rb rz) q2) fun r s' hq => ?_)
  match r, hq with
  | .ok (.ret u), hq => exact I2.after hq
end
theorem k_eqI {X : Cx} {K : PySem.W.Frag} {k : Nat} {f C : Addr} {sp : Sp} (Rn : Runs X k f sp) (hr : Room k X.A) (M : Meth X.K C "__eq__" f) (h : X.K = K := by rfl) : OpR X (compareOp .Eq) (rEqI C K sp) := by subst h; exact op_eqI Rn hr M
theorem new_list {H0 H : Hp} {u : V} {ds : List PyData} (h : Np (off (old H0) H) u (.list ds)) : ∃ a xs, u = .ref a ∧ H a = some (.lst xs) ∧ H0 a = none ∧ xs.length = ds.length ∧ ∀ (i : Nat) x d, xs[i]? = some x → ds[i]? = some d → Np (off (old H0) H) x d := by
  cases h with
  | @lst a xs _ h l t =>
    obtain ⟨n, h⟩ := off_some h
    exact ⟨a, xs, rfl, h, Classical.byContradiction fun z => n z, l, t⟩
theorem shd_nLL (L : List (List Nat)) : Shd (nLL L) := by
  refine ⟨?_, ?_⟩
  · unfold nLL; rw [PyData.canLay0]; exact can_all fun d hd => by obtain ⟨r, _, rfl⟩ := List.mem_map.mp hd; exact (shd_nL r).can
  · unfold nLL; rw [PyData.depth]
    have := dep_all (n := 2) (ds := L.map nL) fun d hd => by
      obtain ⟨r, _, rfl⟩ := List.mem_map.mp hd
      unfold nL
      rw [PyData.depth]
      have := dep_all (n := 0) (ds := r.map nD) fun d hd => by
        obtain ⟨n, _, rfl⟩ := List.mem_map.mp hd
        simp [nD, PyData.depth]
      omega
    omega
theorem pl_nL (r : List Nat) : Pl (nL r) = true := by
  unfold nL; rw [Pl]
  induction r with
  | nil => rfl
  | cons n r ih => rw [List.map_cons, PlAll, ih]; rfl
theorem pl_nLL (L : List (List Nat)) : Pl (nLL L) = true := by
  unfold nLL; rw [Pl]
  induction L with
  | nil => rfl
  | cons n r ih => rw [List.map_cons, PlAll, ih, pl_nL]; rfl
theorem shd_str {x : Str} (h : okS x) : Shd (.str x) := ⟨by simp [PyData.canLay0, okS_ok h], by simp [PyData.depth]⟩
theorem ok_rText (R : List (List Nat)) : okS (rText R) := okS_app (okS_app (okS_of _) (okS_shown _ (pl_nLL R))) (okS_of _)
def three (R : List (List Nat)) : PyData := .list [nD R.length, nLL R, .str (rText R)]
theorem three_sh (R : List (List Nat)) : SeqAt.shaped (three R) = true := shaped_list fun d hd => by
  simp only [List.mem_cons, List.not_mem_nil, or_false] at hd
  rcases hd with rfl | rfl | rfl
  · exact shd_int _
  · exact shd_nLL R
  · exact shd_str (ok_rText R)
theorem three_eqv (R : List (List Nat)) : PyData.eqv (three R) (three R) = true := by simp [three, nD, PyData.eqv, PyData.eqvAll, eqv_nLL2]
section
variable {σ : L2.St} {H : Hp} {Q : VK} {C : Addr} {m : Str} {sp : Sp} {E : XK} {ta tb tc : TE}
theorem t_methKR2 {n : Nat} (h : ta σ H fun x H1 => ∃ a dx fs, x = .ref a ∧ H1 a = some (.ins C dx fs) ∧ fs.lookup m = none ∧ tb σ H1 fun y H2 => tc σ H2 fun z H3 => [y, z].length = n ∧ sp (x :: [y, z].reverse) H3 Q E0) : tMethKR C m n sp ta (tCons tb (tCons tc tNil)) σ H Q := h
end
theorem row_all (l : List Nat) : (List.range l.length).map (fun j => l.getD j 0) = l := by
  apply List.ext_getElem (by simp)
  intro i h1 h2
  simp only [List.getElem_map, List.getElem_range]
  rw [List.getD_eq_getElem?_getD, List.getElem?_eq_getElem h2]; rfl
theorem row_at {R : List (List Nat)} (tb : Tb R) {i : Nat} (hi : i < R.length) : (List.range R.length).map (fun j => at_ R i j) = R.getD i [] := by
  have e := (tb.get hi).1
  have l := tb.row _ (List.mem_of_getElem? e)
  have := row_all (R.getD i [])
  rw [l] at this
  exact this
theorem kbr1_of {K : PySem.W.Frag} {fd : FuncData} {ps ks : List Str} (h : ∀ (u : Value) (ws : List Value), ws.length = ks.length → bindArgs fd ⟨[u], ks.zip ws⟩ = pure (ps.zip (u :: ws.reverse))) : KBn K fd ps 1 ks (fun us ws => us ++ ws.reverse) (fun vs zs => vs ++ zs.reverse) :=
  ⟨fun s us ws _ h1 h2 => by
    match us, h1 with
    | [u], _ => exact .of_eq (h u ws h2), fun r1 r2 => r1.append (vals_rev r2)⟩
end K31

set_option maxRecDepth 100000
set_option maxHeartbeats 4000000
namespace K31
open PySem PySem.Spec PyProof.Rows L2 Kh
section
variable {K : PySem.W.Frag} {S : Addr → Prop} {H0 H : Hp} {σ : L2.St} {Q : VK} {C CT : Addr}
theorem dpa_rep {v : V} {d : PyData} (h : Dp K H v d) : ∀ k : Nat, DpAll K H (List.replicate k v) (List.replicate k d)
  | 0 => .nil
  | k + 1 => .cons h (dpa_rep h k)
theorem flat_rep {α : Type} (v : α) : ∀ k : Nat, (List.replicate k [v]).flatten = List.replicate k v
  | 0 => rfl
  | k + 1 => by rw [List.replicate_succ, List.flatten_cons, flat_rep v k]; rfl
/-- [e] * k -/
theorem ev_rep {te tk : TE} {d : PyData} {k : Nat} (kn : Kn S H0) (h : EvD K S H0 σ te d) (hk : k ≤ 1000) (hc : ∀ H1, Same H0 H1 → ∀ Q : VK, Q (.int (k : Nat)) H1 → tk σ H1 Q) : EvD K S H0 σ (tOp rRep (tLst (tCons te tNil)) tk) (.list (List.replicate k d)) := fun H1 s Q q => by
  refine t_op (t_lst (a_cons (h H1 s _ fun u H2 s2 d2 => a_nil ⟨le1, fun p hp => ?_⟩)))
  have s3 := same_new (o := HO.lst [u]) hp
  refine hc _ (s.trans (s2.trans s3)) _ ⟨p, ((k : Nat) : Int), _, rfl, rfl, upd_same, by omega, by omega, ?_, fun D hD => ?_⟩
  · rw [Int.toNat_natCast]
    show 1 * k ≤ sizeLine
    exact Nat.le_trans (by omega) (show 1000 ≤ sizeLine by decide)
  · rw [Int.toNat_natCast, flat_rep]
    exact q _ _ ((s2.trans s3).trans (same_new hD)) (dp_newL (kn.same (s.trans (s2.trans s3))) hD (dpa_rep (dp_same (off_same s3) _ _ d2) k))
theorem ev_bl (b : Bool) : EvD K S H0 σ (tC (.bl b)) (.bool b) := fun H1 s Q q => t_c (q _ _ (Same.refl _) (.bl _))
theorem ev_neg (i : Int) : EvD K S H0 σ (tC (.int i)) (.int i) := ev_int i
/-- Table(rows = e) -/
theorem mk_tabK {ta : TE} {E : XK} (b : Bool) (rs : List (Bool × List Nat)) (tb : Tb (rs.map Prod.snd)) (kn : Kn S H) (hev : ∀ Q : VK, (∀ u H1, Same H H1 → Dp K (off S H1) u (sq b (rs.map rowD)) → Q u H1) → ta σ H Q)
    (q : ∀ x H', Same H H' → TabAt K C (off S H') (rs.map Prod.snd) x → Q (.ref x) H') : tMakeK C 0 1 (spInitX K C CT) (fun vs zs => vs ++ zs) E tNil (tCons ta tNil) σ H Q := by
  show ta σ H _
  refine hev _ fun u H1 s1 du => ⟨rfl, rfl, fun x dx hx hdx ne => ?_⟩
  have kn1 := kn.same s1
  have sm : Same H1 (upd (upd H1 dx (.own x)) x (.ins C dx [])) := fun b u e => by
    rw [upd_ne (ne_of_none e hx), upd_ne (ne_of_none e hdx)]; exact e
  have hup : (upd (upd H1 dx (.own x)) x (.ins C dx [])) x = some (.ins C dx []) := upd_same
  refine ⟨plus S x, x, dx, u, rfl, (kn1.same sm).plus (some_ne hup), .inr rfl, hup, .inr (.inr ⟨b, rs, dp_same ?_ _ _ du, tb, fun H' v1 sb hx' d1 => ⟨rfl, q x H' ?_ ⟨dx, v1, ?_, dp_same off_fin _ _ d1⟩⟩⟩)⟩
  · exact off_plus hx sm
  · intro b o h
    exact sb b o (ne_of_none (s1 b o h) hx) (sm b o (s1 b o h))
  · rw [off_out (kn1.new hx)]; exact hx'
end
theorem i_0 {f : Int → Int → V} {i j : Int} {v : V} {H : Hp} {Q : VK} (e : f i j = v) (q : Q v H) : rI0 f (.int i) (.int j) H Q := ⟨i, j, rfl, rfl, by rw [e]; exact q⟩
theorem i_c {c : Int → Int → Prop} {f : Int → Int → V} {i j : Int} {v : V} {H : Hp} {Q : VK} (hc : c i j) (e : f i j = v) (q : Q v H) : rI c f (.int i) (.int j) H Q := ⟨i, j, rfl, rfl, hc, by rw [e]; exact q⟩
theorem ten20 : (10 : Int) ^ (20 : Int).toNat = 100000000000000000000 := by decide
/-- the other table -/
def othR (n : Nat) : List (List Nat) := if n < 7 then List.replicate (n + 1) (List.replicate (n + 1) 0) else [[0]]
theorem oth_tb {n : Nat} (h : 1 ≤ n) : Tb (othR n) := by
  unfold othR
  split
  · refine ⟨by simp, by simp; omega, fun r hr => ?_, fun r hr m hm => ?_⟩
    · rw [(List.mem_replicate.mp hr).2]; simp
    · rw [(List.mem_replicate.mp hr).2] at hm
      rw [(List.mem_replicate.mp hm).2]; simp
  · refine ⟨by decide, by decide, by decide, by decide⟩
theorem oth_ne {R : List (List Nat)} (h : R.length ≤ 7) : othR R.length ≠ R := fun e => by
  have := congrArg List.length e
  unfold othR at this
  split at this
  · simp at this
  · simp at this; omega
theorem rep_data (n m : Nat) : PyData.list (List.replicate n (.list (List.replicate m (.int 0)))) = nLL (List.replicate n (List.replicate m 0)) := by
  unfold nLL nL
  rw [List.map_replicate, List.map_replicate]; rfl
/-- one entry of the last row is another one -/
def nearRow (R : List (List Nat)) : List Nat := (R.getD (R.length - 1) []).take (R.length / 2) ++ [(at_ R (R.length - 1) (R.length / 2) + 1) % R.length] ++ (R.getD (R.length - 1) []).drop (R.length / 2 + 1)
def nearR (R : List (List Nat)) : List (List Nat) := R.take (R.length - 1) ++ [nearRow R]
theorem near_len {R : List (List Nat)} (tb : Tb R) : (nearRow R).length = R.length := by
  have p := tb.pos
  have e := (tb.get (i := R.length - 1) (by omega)).1
  have l := tb.row _ (List.mem_of_getElem? e)
  unfold nearRow
  generalize R.getD (R.length - 1) [] = r at *
  rw [List.length_append, List.length_append, List.length_take, List.length_drop, l]
  simp only [List.length_singleton]
  omega
theorem nearR_len {R : List (List Nat)} (tb : Tb R) : (nearR R).length = R.length := by
  have p := tb.pos
  unfold nearR; simp; omega
theorem near_tb {R : List (List Nat)} (tb : Tb R) : Tb (nearR R) := by
  have p := tb.pos
  have e := (tb.get (i := R.length - 1) (by omega)).1
  have l := nearR_len tb
  refine ⟨by omega, by rw [l]; exact tb.few, fun r hr => ?_, fun r hr m hm => ?_⟩
  · rw [l]
    unfold nearR at hr
    rcases List.mem_append.mp hr with hr | hr
    · exact tb.row _ (List.mem_of_mem_take hr)
    · rw [List.mem_singleton.mp hr]; exact near_len tb
  · rw [l]
    unfold nearR at hr
    rcases List.mem_append.mp hr with hr | hr
    · exact tb.num _ (List.mem_of_mem_take hr) m hm
    · rw [List.mem_singleton.mp hr] at hm
      unfold nearRow at hm
      rw [List.mem_append, List.mem_append] at hm
      rcases hm with (hm | hm) | hm
      · exact tb.num _ (List.mem_of_getElem? e) m (List.mem_of_mem_take hm)
      · rw [List.mem_singleton.mp hm]; exact Nat.mod_lt _ (by omega)
      · exact tb.num _ (List.mem_of_getElem? e) m (List.mem_of_mem_drop hm)
theorem near_eq {R : List (List Nat)} (tb : Tb R) : decide (nearR R = R) = decide (R.length = 1) := by
  have p := tb.pos
  have e := (tb.get (i := R.length - 1) (by omega)).1
  have l := tb.row _ (List.mem_of_getElem? e)
  obtain ⟨g, lt⟩ := tb.at_get (i := R.length - 1) (j := R.length / 2) (by omega) (by omega)
  have h1 : nearR R = R ↔ nearRow R = R.getD (R.length - 1) [] := by
    constructor
    · intro h
      have q := e
      rw [← h] at q
      rw [h] at q
      have q2 : (nearR R)[R.length - 1]? = some (nearRow R) := by
        unfold nearR
        rw [List.getElem?_append_right (by simp), List.length_take, Nat.min_eq_left (by omega), Nat.sub_self]; rfl
      rw [h, e] at q2
      exact (Option.some.inj q2).symm
    · intro h
      unfold nearR
      rw [h]
      have : R.drop (R.length - 1) = [R.getD (R.length - 1) []] := by
        rw [List.drop_eq_getElem_cons (by omega), List.drop_eq_nil_of_le (by omega), List.getD_eq_getElem?_getD, List.getElem?_eq_getElem (by omega)]; rfl
      rw [← this, List.take_append_drop]
  have h2 : nearRow R = R.getD (R.length - 1) [] ↔ (at_ R (R.length - 1) (R.length / 2) + 1) % R.length = at_ R (R.length - 1) (R.length / 2) := by
    unfold nearRow
    generalize R.getD (R.length - 1) [] = r at *
    generalize at_ R (R.length - 1) (R.length / 2) = z at *
    have lk : R.length / 2 < r.length := by omega
    have gz : r[R.length / 2] = z := by
      rw [List.getElem?_eq_getElem lk] at g
      exact Option.some.inj g
    constructor
    · intro h
      have q : (r.take (R.length / 2) ++ [(z + 1) % R.length] ++ r.drop (R.length / 2 + 1))[R.length / 2]? = some ((z + 1) % R.length) := by
        rw [List.append_assoc, List.getElem?_append_right (by rw [List.length_take]; omega), List.length_take, Nat.min_eq_left (by omega), Nat.sub_self]; rfl
      rw [h, g] at q
      exact (Option.some.inj q).symm
    · intro h
      rw [h]
      have : [z] ++ r.drop (R.length / 2 + 1) = r.drop (R.length / 2) := by
        rw [List.drop_eq_getElem_cons lk, gz]; rfl
      rw [List.append_assoc, this, List.take_append_drop]
  refine decide_eq_decide.mpr (h1.trans (h2.trans ?_))
  generalize at_ R (R.length - 1) (R.length / 2) = z at *
  constructor
  · intro h
    rcases Nat.lt_or_ge (z + 1) R.length with a | a
    · rw [Nat.mod_eq_of_lt a] at h; omega
    · have : z + 1 = R.length := by omega
      rw [this, Nat.mod_self] at h; omega
  · intro h
    rw [h, Nat.mod_one]; omega
theorem TabAt.mv {K : PySem.W.Frag} {C : Addr} {G G' : Hp} {R : List (List Nat)} {x : Addr} (e : Mv G G') (h : TabAt K C G R x) : TabAt K C G' R x := by
  obtain ⟨dx, v, h0, h1⟩ := h
  exact ⟨dx, v, e _ _ (nt_of h0 fun _ z => nomatch z), e.dp h1⟩
/-- values that are none of a table -/
def odds (n : Nat) : List PyData := [.none, .int (-1), nD n, .bool true, .str "0", .tuple [.int 0], .int 100000000000000000000]
theorem odds_bad {n : Nat} (h : n ≤ 7) : ∀ d ∈ odds n, belowD ((n : Nat) : Int) d = false := by
  intro d hd
  simp only [odds, List.mem_cons, List.not_mem_nil, or_false] at hd
  rcases hd with rfl | rfl | rfl | rfl | rfl | rfl | rfl
  · rfl
  · simp [belowD]
  · simp [belowD, nD]
  · rfl
  · rfl
  · rfl
  · simp [belowD]; omega
theorem odds_tls {n : Nat} (h : n ≤ 7) : ∀ d ∈ odds n, Tls d := by
  intro d hd
  simp only [odds, List.mem_cons, List.not_mem_nil, or_false] at hd
  rcases hd with rfl | rfl | rfl | rfl | rfl | rfl | rfl
  · exact .inr ⟨_, _, nice_none, by decide, by decide⟩
  · exact .inl ⟨_, rfl, by decide +kernel⟩
  · exact .inr ⟨_, _, nice_int (by omega), by decide, by decide⟩
  · exact .inr ⟨_, _, nice_bool _, by decide, by decide⟩
  · exact .inr ⟨_, _, nice_okS (n := 10) (okS_of _) (by decide +kernel), by decide, by decide⟩
  · exact .inr ⟨_, _, nice_tup (niceA_cons (nice_int (n := 0) (by decide)) niceA_nil), by decide, by decide⟩
  · exact .inl ⟨_, rfl, by decide +kernel⟩
theorem odds_pl {n : Nat} : ∀ d ∈ odds n, Pl d = true := by
  intro d hd
  simp only [odds, List.mem_cons, List.not_mem_nil, or_false] at hd
  rcases hd with rfl | rfl | rfl | rfl | rfl | rfl | rfl
  · rfl
  · rfl
  · rfl
  · rfl
  · decide +kernel
  · rfl
  · rfl
/-- what is heard -/
abbrev toldD (w : Str) (d : PyData) : PyData := .list [.str w, .str d.shown, .bool true]
theorem shd_told {w : Str} {d : PyData} (hw : okS w) (hd : okS d.shown) : Shd (toldD w d) := ⟨by simp [PyData.canLay0, PyData.canLayAll0, okS_ok hw, okS_ok hd], by simp [PyData.depth, PyData.depthAll]⟩
theorem two_eqv (w : Str) (d : PyData) : PyData.eqv (.list [toldD w d, toldD w d]) (.list [toldD w d, toldD w d]) = true := by simp [PyData.eqv, PyData.eqvAll]
theorem two_sh {w : Str} {d : PyData} (hw : okS w) (hd : okS d.shown) : SeqAt.shaped (.list [toldD w d, toldD w d]) = true := shaped_list fun e he => by
  simp only [List.mem_cons, List.not_mem_nil, or_false] at he
  rcases he with rfl | rfl <;> exact shd_told hw hd
end K31

set_option maxRecDepth 100000
set_option maxHeartbeats 8000000
namespace K31
open PySem PySem.Spec PyProof.Rows L2 Kh
open LamX (ExtN Tabs TabS TabB CodeO GivesTo LamS lamEnv lamCx)
section
variable {P : Program} {w : World} {K : PySem.W.Frag} {mg : Str → Option Value} {base : Heap} {a : Nat → Addr} {fd : Nat → FuncData} {C : Addr} {tk : Nat → Tok} {CS CT CV CM : Addr} {Ts : List (Addr × Str)}
abbrev Kat (K : PySem.W.Frag) (fd : FuncData) : Prop := KBn K fd ["self", "x", "y"] 1 ["y", "x"] (fun us ws => us ++ ws.reverse) (fun vs zs => vs ++ zs.reverse)
abbrev Kin (K : PySem.W.Frag) (fd : FuncData) : Prop := KBn K fd ["self", "rows"] 1 ["rows"] (fun us ws => us ++ ws) (fun vs zs => vs ++ zs)
def spToldR (K : PySem.W.Frag) (C : Addr) (Ts : List (Addr × Str)) : Sp := fun vs H Q _ => ∃ (S : Addr → Prop) (R : List (List Nat)) (x : Addr) (v : V), vs = [.ref x, v] ∧ Wd Ts S H ∧ TabAt K C (off S H) R x ∧ Tb R ∧ Dp K (off S H) v (nLL R) ∧ ∀ H', ExtN H H' → Tabs Ts H' → Q (.bl true) H'
theorem ok__law_told_right (T : Txt K mg a fd C tk) (U : TxC K mg a C) (D : TxD K C) (D2 : TxQ K a C) (R : TxR K mg a fd CS CT CV CM) (L : Lm base mg Ts (fd 26) "_law_told_right") (kw_at : Kat K (fd 7)) (kw_init : Kin K (fd 5)) : FnG P w K mg base 30 (a 26) (fd 26) ["_law_table_here", "_law_rows"] (spToldR K C Ts) := by
  obtain ⟨c, Pt, hcode, TB, hmT, hu⟩ := L
  have G_Table_init := ok_Table_init (P := P) (w := w) (base := base) T U
  have G_Table_initX := ok_Table_initX (P := P) (w := w) (base := base) T U R
  have G_Table_len := ok_Table_len (P := P) (w := w) (base := base) T U
  have G_Table_rows := ok_Table_rows (P := P) (w := w) (base := base) T U
  have G_Table_rowsN := ok_Table_rowsN (P := P) (w := w) (base := base) T U
  have G_Table_at := ok_Table_at (P := P) (w := w) (base := base) T U
  have G_Table_atX := ok_Table_atX (P := P) (w := w) (base := base) T U R
  have G_Table_eqX := ok_Table_eqX (P := P) (w := w) (base := base) T U D D2
  have G_Table_repr := ok_Table_repr (P := P) (w := w) (base := base) T U
  refine fun_okC T.F__law_told_right sc__law_told_right (fun vs H Q E h => by obtain ⟨_, _, _, _, rfl, _⟩ := h; rfl) (fun A outer s H vs Q E hg hr h => ?_)
  obtain ⟨S, RR, x, v, rfl, wd, ht, tb, hv, q⟩ := h
  refine ⟨_, (pss_cons (ps_set (i := 2) sc__law_told_right.nd rfl (Or.inl rfl) (pe_listRg rfl (by rfl) T.z_list (prg_1 (by rfl) T.z_range (pe_callB (k_len (K := K)) (by rfl) T.z_len (by decide +kernel) (pa_cons (pv 1) pa_nil)))))
      (pss_cons (ps_if (pt_cmpR (k_neD (K := K) hr.units) (pe_lst (pa_cons (pe_callB (call_lenI (runsOk G_Table_len T.b_Table_len) (hr.mono (by omega)) U.me_len) (by rfl) T.z_len (by decide +kernel) (pa_cons (pv 0) pa_nil)) (pa_cons (pe_meth0 (pv 0) U.cls U.me_rows G_Table_rows (hr.mono (by omega)) T.b_Table_rows .nil pass0) (pa_cons (pe_callB (call_reprI (runsG G_Table_repr hg T.b_Table_repr) (hr.mono (by omega)) D2.me_repr) (by rfl) T.z_repr (by decide +kernel) (pa_cons (pv 0) pa_nil)) pa_nil)))) (pe_lst (pa_cons (pe_callB (k_len (K := K)) (by rfl) T.z_len (by decide +kernel) (pa_cons (pv 1) pa_nil)) (pa_cons (pv 1) (pa_cons (pe_op op_add_str (pe_op op_add_str pe_str (pe_callB (k_reprA (K := K) hg hr.units) (by rfl) T.z_repr (by decide +kernel) (pa_cons (pv 1) pa_nil))) pe_str) pa_nil)))) (nomark _))
        (pss_one (ps_ret pe_bl)) pss_nil)
      (pss_cons (ps_for PassesOwn.never rfl (k_pi (K := K) (pe_lst (pa_cons (pe_meth0 (pv 0) U.cls U.me_rows G_Table_rowsN (hr.mono (by omega)) T.b_Table_rows .nil pass0) (pa_cons (pe_ix (k_ix (K := K)) (pe_meth0 (pv 0) U.cls U.me_rows G_Table_rowsN (hr.mono (by omega)) T.b_Table_rows .nil pass0) pe_int (fun _ _ => rfl)) pa_nil)))) (pg_name (i := 3) sc__law_told_right.nd rfl (Or.inl rfl))
        (pss_one (ps_expr (pe_bm PySem.F.plainAttrs_list PySem.F.slot_list_append PySem.F.type_list_append mt_append (pv 3) (pa_cons pe_int pa_nil)))))
      (pss_cons (ps_for PassesOwn.never rfl (k_pi (K := K) (pv 2)) (pg_name (i := 4) sc__law_told_right.nd rfl (Or.inr rfl))
        (pss_one (ps_if (PW.pt (pw_or (pt_cmpR (k_neD (K := K) hr.units) (pe_lc (own := [("_law_y", 12)]) (g := gName 12) (tt := tYes) rfl sc__law_told_right.nd (k_pi (K := K) (pv 2)) (blkOk_by (own := [("_law_y", 12)]) (N := _law_told_right_N) (sc := defScope _law_told_right_s) (by decide +kernel)) (fun _ _ _ _ _ => (pg_name (i := 12) sc__law_told_right.nd rfl (Or.inl rfl))) (fun _ _ _ _ _ => pts_nil) (fun _ _ _ _ _ => (pe_meth (pv 0) U.cls U.me_at G_Table_at (hr.mono (by omega)) T.b_Table_at .nil pass0 (pa_cons (pv 4) (pa_cons (pv 12) pa_nil))))) (pe_ix (k_ix (K := K)) (pv 1) (pv 4) (fun _ _ => rfl)) (nomark _)) (pw_or1 (pt_cmpR (k_neD (K := K) hr.units) (pe_lc (own := [("_law_y", 12)]) (g := gName 12) (tt := tYes) rfl sc__law_told_right.nd (k_pi (K := K) (pv 2)) (blkOk_by (own := [("_law_y", 12)]) (N := _law_told_right_N) (sc := defScope _law_told_right_s) (by decide +kernel)) (fun _ _ _ _ _ => (pg_name (i := 12) sc__law_told_right.nd rfl (Or.inl rfl))) (fun _ _ _ _ _ => pts_nil) (fun _ _ _ _ _ => (pe_methKR (pv 0) U.cls U.me_at G_Table_at (hr.mono (by omega)) kw_at (pk_cons (pv 12) (pk_cons (pv 4) pk_nil))))) (pe_ix (k_ix (K := K)) (pv 1) (pv 4) (fun _ _ => rfl)) (nomark _)))))
          (pss_one (ps_ret pe_bl)) pss_nil)))
      (pss_cons (ps_set (i := 5) sc__law_told_right.nd rfl (Or.inl rfl) (pe_makeK0 U.M_Table G_Table_initX (hr.mono (by omega)) (by rfl) U.m_Table kw_init passL (pk_cons (pe_callTy (k_tup (K := K)) (by rfl) T.z_tuple (by decide +kernel) (pa_cons (pe_lc (own := [("_law_row", 13)]) (g := gName 13) (tt := tYes) rfl sc__law_told_right.nd (k_pi (K := K) (pv 1)) (blkOk_by (own := [("_law_row", 13)]) (N := _law_told_right_N) (sc := defScope _law_told_right_s) (by decide +kernel)) (fun _ _ _ _ _ => (pg_name (i := 13) sc__law_told_right.nd rfl (Or.inl rfl))) (fun _ _ _ _ _ => pts_nil) (fun _ _ _ _ _ => (pe_callTy (k_tup (K := K)) (by rfl) T.z_tuple (by decide +kernel) (pa_cons (pv 13) pa_nil)))) pa_nil)) pk_nil)))
      (pss_cons (ps_set (i := 6) sc__law_told_right.nd rfl (Or.inl rfl) (pe_make U.M_Table G_Table_init (hr.mono (by omega)) (by rfl) U.m_Table T.b_Table_init .nil pass0 (pa_cons (pe_ifExp (pt_cmpR op_lt (pe_callB (k_len (K := K)) (by rfl) T.z_len (by decide +kernel) (pa_cons (pv 1) pa_nil)) pe_int (nomark _)) (pe_op op_rep (pe_lst (pa_cons (pe_op op_rep (pe_lst (pa_cons pe_int pa_nil)) (pe_op op_add (pe_callB (k_len (K := K)) (by rfl) T.z_len (by decide +kernel) (pa_cons (pv 1) pa_nil)) pe_int)) pa_nil)) (pe_op op_add (pe_callB (k_len (K := K)) (by rfl) T.z_len (by decide +kernel) (pa_cons (pv 1) pa_nil)) pe_int)) (pe_lst (pa_cons (pe_lst (pa_cons pe_int pa_nil)) pa_nil))) pa_nil)))
      (pss_cons (ps_if (PW.pt (pw_or (pt_cmpR (op_neI (k := 2) (runsOk G_Table_eqX T.b_Table_eq) (hr.mono (by omega)) U.me_eq D2.ne D2.ob) (pv 5) (pv 0) (nomark _)) (pw_or (pt_cmpR (k_eqI (K := K) (k := 2) (runsOk G_Table_eqX T.b_Table_eq) (hr.mono (by omega)) U.me_eq) (pv 6) (pv 0) (nomark _)) (pw_or1 (pt_val (pe_callB (k_any (K := K) rfl) (by rfl) T.z_any (by decide +kernel) (pa_cons (pe_lc (own := [("_law_odd", 10)]) (g := gName 10) (tt := tYes) rfl sc__law_told_right.nd (k_pi (K := K) (pe_lst (pa_cons (pv 1) (pa_cons (pe_callB (call_reprI (runsG G_Table_repr hg T.b_Table_repr) (hr.mono (by omega)) D2.me_repr) (by rfl) T.z_repr (by decide +kernel) (pa_cons (pv 0) pa_nil)) (pa_cons pe_non (pa_cons pe_int pa_nil)))))) (blkOk_by (own := [("_law_odd", 10)]) (N := _law_told_right_N) (sc := defScope _law_told_right_s) (by decide +kernel)) (fun _ _ _ _ _ => (pg_name (i := 10) sc__law_told_right.nd rfl (Or.inl rfl))) (fun _ _ _ _ _ => pts_nil) (fun _ _ _ _ _ => (pe_cmpR (k_eqI (K := K) (k := 2) (runsOk G_Table_eqX T.b_Table_eq) (hr.mono (by omega)) U.me_eq) (pv 0) (pv 10) (nomark _)))) pa_nil)))))))
        (pss_one (ps_ret pe_bl)) pss_nil)
      (pss_cons (ps_par (i := 7) (j := 8) (by rfl) sc__law_told_right.nd rfl rfl (by decide) rfl rfl (pa_cons (pe_op op_sub (pe_callB (k_len (K := K)) (by rfl) T.z_len (by decide +kernel) (pa_cons (pv 1) pa_nil)) pe_int) (pa_cons (pe_op op_fdivW (pe_callB (k_len (K := K)) (by rfl) T.z_len (by decide +kernel) (pa_cons (pv 1) pa_nil)) pe_int) pa_nil)) (by rfl))
      (pss_cons (ps_set (i := 9) sc__law_told_right.nd rfl (Or.inl rfl) (pe_op (k_catS (K := K)) (pe_op (k_catS (K := K)) (pe_slice (k_sl (K := K)) (pe_ix (k_ix (K := K)) (pv 1) (pv 7) (fun _ _ => rfl)) po_none (po_some (pv 8))) (pe_lst (pa_cons (pe_op op_mod (pe_callTy call_int1R (by rfl) T.z_int (by decide +kernel) (pa_cons (pe_op op_add (pe_ix (k_ix (K := K)) (pe_ix (k_ix (K := K)) (pv 1) (pv 7) (fun _ _ => rfl)) (pv 8) (fun _ _ => rfl)) pe_int) pa_nil)) (pe_callB (k_len (K := K)) (by rfl) T.z_len (by decide +kernel) (pa_cons (pv 1) pa_nil))) pa_nil))) (pe_slice (k_sl (K := K)) (pe_ix (k_ix (K := K)) (pv 1) (pv 7) (fun _ _ => rfl)) (po_some (pe_op op_add (pv 8) pe_int)) po_none)))
      (pss_cons (ps_if (pt_cmpR op_ne (pe_cmpR (k_eqI (K := K) (k := 2) (runsOk G_Table_eqX T.b_Table_eq) (hr.mono (by omega)) U.me_eq) (pe_make U.M_Table G_Table_init (hr.mono (by omega)) (by rfl) U.m_Table T.b_Table_init .nil pass0 (pa_cons (pe_op (k_catS (K := K)) (pe_slice (k_sl (K := K)) (pv 1) po_none (po_some (pv 7))) (pe_lst (pa_cons (pv 9) pa_nil))) pa_nil)) (pv 0) (nomark _)) (pe_cmpR op_eq (pe_callB (k_len (K := K)) (by rfl) T.z_len (by decide +kernel) (pa_cons (pv 1) pa_nil)) pe_int (nomark _)) (nomark _))
        (pss_one (ps_ret pe_bl)) pss_nil)
      (pss_cons (ps_for PassesOwn.never rfl (k_pi (K := K) (pe_lst (pa_cons pe_non (pa_cons (pe_un un_neg pe_int) (pa_cons (pe_callB (k_len (K := K)) (by rfl) T.z_len (by decide +kernel) (pa_cons (pv 1) pa_nil)) (pa_cons pe_bl (pa_cons pe_str (pa_cons (pe_tup (pa_cons pe_int pa_nil)) (pa_cons (pe_op op_pow pe_int pe_int) pa_nil))))))))) (pg_name (i := 10) sc__law_told_right.nd rfl (Or.inr rfl))
        (pss_cons (ps_set (i := 11) sc__law_told_right.nd rfl (Or.inl rfl) (pe_lst (pa_cons (pe_heard (k := 11) T R hg TB hcode hmT hu (hr.mono (by omega)) (LamX.lamS_by (sc := defScope _law_told_right_s) (by decide +kernel)) (fun _ _ _ _ _ _ _ hr2 => (pe_meth (pv 0) U.cls U.me_at G_Table_atX (hr2.mono (by omega)) T.b_Table_at .nil (passes_call (takes_of rfl rfl rfl rfl) fun _ _ _ _ h => h) (pa_cons (pv 10) (pa_cons pe_non pa_nil))))) pa_nil)))
        (pss_cons (ps_expr (pe_bm PySem.F.plainAttrs_list PySem.F.slot_list_append PySem.F.type_list_append mt_append (pv 11) (pa_cons (pe_heard (k := 11) T R hg TB hcode hmT hu (hr.mono (by omega)) (LamX.lamS_by (sc := defScope _law_told_right_s) (by decide +kernel)) (fun _ _ _ _ _ _ _ hr2 => (pe_meth (pv 0) U.cls U.me_at G_Table_atX (hr2.mono (by omega)) T.b_Table_at .nil (passes_call (takes_of rfl rfl rfl rfl) fun _ _ _ _ h => h) (pa_cons pe_int (pa_cons (pv 10) pa_nil))))) pa_nil)))
        (pss_one (ps_if (pt_cmpR (k_neD (K := K) hr.units) (pv 11) (pe_op op_rep (pe_lst (pa_cons (pe_lst (pa_cons pe_str (pa_cons (pe_callB (k_reprA (K := K) hg hr.units) (by rfl) T.z_repr (by decide +kernel) (pa_cons (pv 10) pa_nil)) (pa_cons pe_bl pa_nil)))) pa_nil)) pe_int) (nomark _))
          (pss_one (ps_ret pe_bl)) pss_nil)))))
      (pss_one (ps_ret (pe_cmpR (k_eqD (K := K) hr.units) (pe_meth0 (pv 0) U.cls U.me_rows G_Table_rows (hr.mono (by omega)) T.b_Table_rows .nil pass0) (pv 1) (nomark _))))))))))))))), ?_⟩
  have p1 := tb.pos
  have p7 := tb.few
  have kn := wd.kn
  refine s_seq (s_set (t_cb1 (t_var rfl (len_d off_sub hv rfl ⟨_, rfl, rg_ok (by rw [List.length_map]; omega), fun lV hV => nx_of ?_⟩))))
  rw [List.length_map, rg_val]
  have dV := dp_newL (K := K) (ds := (List.range RR.length).map nD) kn hV (nats_dpa (List.range RR.length))
  have s1 := same_new (o := HO.lst (ivs (List.range RR.length))) hV
  generalize upd H lV (.lst (ivs (List.range RR.length))) = H1 at dV s1 ⊢
  have kn1 := kn.same s1
  have ht1 := ht.same (off_same s1)
  have hv1 := dp_same (off_same s1) _ _ hv
  refine s_seq (s_if (b_test (t_op (t_lst (a_cons (t_cb1 (t_var rfl (len_tab kn1 ht1 tb fun H2 s2 => ?_))))))))
  have ht2 := ht1.same (off_same s2)
  obtain ⟨dx, v0, hx0, _⟩ := id ht2
  refine a_cons (t_meth0 (t_var rfl ⟨x, dx, _, rfl, (off_some hx0).2, rfl, S, RR, x, (), [], rfl, kn1.same s2, ht2, tb, .nil, trivial, fun u3 H3 s3 d3 => ?_⟩))
  replace d3 : Dp K (off S H3) u3 (nLL RR) := d3
  have s13 := s2.trans s3
  have ht3 := ht1.same (off_same s13)
  refine a_cons (t_cb1 (t_var rfl ⟨.ref x, rfl, tab_isI ht3, S, RR, x, rfl, kn1.same s13, ht3, tb, fun H4 s4 => ⟨_, rfl, a_nil ⟨le3, fun p hp => ?_⟩⟩⟩))
  have s14 := s13.trans s4
  have kn4 := kn1.same s14
  have dL := dp_newL (K := K) (ds := [nD RR.length, nLL RR, .str (rText RR)]) kn4 hp (.cons (.int _) (.cons (dp_same (off_same s4) _ _ d3) (.cons (.str _) .nil)))
  have s45 := same_new (o := HO.lst [V.int (RR.length : Nat), u3, V.str (rText RR)]) hp
  generalize upd H4 p (.lst [V.int (RR.length : Nat), u3, V.str (rText RR)]) = H5 at dL s45 ⊢
  have s15 := s14.trans s45
  have kn5 := kn1.same s15
  have hv5 := dp_same (off_same s15) _ _ hv1
  refine t_lst (a_cons (t_cb1 (t_var rfl (len_d off_sub hv5 rfl ?_))))
  refine a_cons (t_var rfl (a_cons (t_op (t_op (t_c (t_cb1 (t_var rfl ⟨_, nLL RR, rfl, ⟨dp_same off_sub _ _ hv5, .inr ⟨_, _, nice_rows tb, by decide, by decide⟩⟩, ?_⟩)))))))
  have tl := rText_len tb
  have sz : 100000 ≤ sizeLine := by decide
  rw [List.length_map]
  refine ⟨_, _, rfl, rfl, ?_, t_c ⟨_, _, rfl, rfl, ?_, a_nil ⟨le3, fun p2 hp2 => ?_⟩⟩⟩
  · unfold rText at tl; rw [strLen_append, strLen_append] at tl; omega
  · unfold rText at tl; rw [strLen_append] at tl; omega
  have dL2 := dp_newL (K := K) (ys := [V.int (RR.length : Nat), v, V.str (("Table(" : Str) ++ (nLL RR).shown ++ (")" : Str))]) (ds := [nD RR.length, nLL RR, .str (rText RR)]) kn5 hp2 (.cons (.int _) (.cons hv5 (.cons (.str _) .nil)))
  have s56 := same_new (o := HO.lst [V.int (RR.length : Nat), v, V.str (("Table(" : Str) ++ (nLL RR).shown ++ (")" : Str))]) hp2
  refine ⟨_, _, dp_same off_sub _ _ (dp_same (off_same s56) _ _ dL), dp_same off_sub _ _ dL2, three_sh RR, three_sh RR, ?_⟩
  show ∃ k, V.bl (!PyData.eqv (three RR) (three RR)) = .bl k ∧ _
  rw [three_eqv]
  refine ⟨_, rfl, ifF rfl (s_next ?_)⟩
  have s06 := (s1.trans s15).trans s56
  have ht6 := ht.same (off_same s06)
  have hv6 := dp_same (off_same s06) _ _ hv
  have kn6 := kn.same s06
  have dV6 := dp_same (off_same (s15.trans s56)) _ _ dV
  clear dL dL2
  generalize upd H5 p2 (.lst [V.int (RR.length : Nat), v, V.str (("Table(" : Str) ++ (nLL RR).shown ++ (")" : Str))]) = H6 at *
  -- the told lists are changed
  refine s_seq ?_
  obtain ⟨dx6, v6, hx6, _⟩ := id ht6
  refine Or.inl (t_lst (a_cons (t_meth0 (t_var rfl ⟨x, dx6, _, rfl, (off_some hx6).2, rfl, S, RR, x, rfl, kn6, ht6, tb, fun r1 H7 s7 n1 => ?_⟩))))
  obtain ⟨l1, xs1, rfl, g1, f1, len1, _⟩ := new_list n1
  have ht7 := ht6.same (off_same s7)
  obtain ⟨dx7, v7, hx7, _⟩ := id ht7
  refine a_cons (t_op (t_meth0 (t_var rfl ⟨x, dx7, _, rfl, (off_some hx7).2, rfl, S, RR, x, rfl, kn6.same s7, ht7, tb, fun r2 H8 s8 n2 => t_c ?_⟩)))
  obtain ⟨l2, xs2, rfl, g2, f2, len2, it2⟩ := new_list n2
  rw [List.length_map] at len2
  have ex0 : xs2[0]? = some xs2[0] := List.getElem?_eq_getElem (by omega)
  obtain ⟨l3, ys3, e3, g3, f3, len3, _⟩ := new_list (it2 0 _ (nL (RR.getD 0 [])) ex0 (by rw [row_get tb nL (by omega)]))
  refine .inl ⟨l2, xs2, ((0 : Nat) : Int), xs2[0], rfl, rfl, sqL g2, atI_nat ex0, a_nil ⟨le2, fun lq hq => ?_⟩⟩
  rw [e3]
  have s78 := s7.trans s8
  have q1 : lq ≠ l1 := fun e => by rw [e, s8 _ _ g1] at hq; cases hq
  have q3 : lq ≠ l3 := fun e => by rw [e, g3] at hq; cases hq
  have l13 : l1 ≠ l3 := fun e => by rw [← e, g1] at f3; cases f3
  have o6 : ∀ {b : Addr} {o : HO}, H6 b = some o → b ≠ l1 ∧ b ≠ l3 ∧ b ≠ lq := fun {b o} hb => by
    refine ⟨fun e => ?_, fun e => ?_, fun e => ?_⟩
    · rw [e, f1] at hb; cases hb
    · have := s7 _ _ hb; rw [e, f3] at this; cases this
    · have := s78 _ _ hb; rw [e, hq] at this; cases this
  refine ⟨lq, rfl, ⟨_, sqL upd_same⟩, ?_⟩
  refine for_it (walk_list (K := K) (a := lq) (xs := [V.ref l1, V.ref l3])) (fun i σ' H' => ∃ (x3 : Option V) (y1 y3 : List V), σ' = [some (.ref x), some v, some (.ref lV), x3, none, none, none, none, none, none, none, none, none, none] ∧ H' l1 = some (.lst y1) ∧ H' l3 = some (.lst y3) ∧ y1.length ≤ 20 + i ∧ y3.length ≤ 20 + i ∧ H' lq = some (.lst [V.ref l1, V.ref l3]) ∧ Same H6 H')
    ⟨_, xs1, ys3, rfl, by rw [upd_ne q1.symm]; exact s8 _ _ g1, by rw [upd_ne q3.symm]; exact g3, by rw [len1, List.length_map]; omega, by rw [len3, List.length_map]; have := (tb.get (i := 0) (by omega)).2; have := tb.row _ (List.mem_of_getElem? (tb.get (i := 0) (by omega)).1); omega, upd_same, s78.trans (same_new hq)⟩ (fun i σ' H' _ ⟨_, _, _, _, _, _, _, _, h, _⟩ => sqL h) ?_ ?_
  · rintro i y σ' Ha Hb hi ⟨x3, y1, y3, rfl, h1, h3, b1, b3, hl, sa⟩ ⟨rfl, xi⟩
    have i2 : i < 2 := hi
    have sz1 : 1000 ≤ sizeLine := by decide
    have hy : y = .ref l1 ∨ y = .ref l3 := by
      match i, i2, xi with
      | 0, _, xi => simp at xi; exact .inl xi.symm
      | 1, _, xi => simp at xi; exact .inr xi.symm
    rcases hy with rfl | rfl
    · have ty : tyV K "list" (.ref l1) Hb := .inl ⟨rfl, y1, sqL h1⟩
      exact g_name (s_drop (t_bm (t_var rfl ⟨ty, a_cons (t_c (a_nil ⟨l1, y1, .int 0, rfl, rfl, h1, by omega, nx_of ⟨_, _, y3, rfl, upd_same, by rw [upd_ne l13.symm]; exact h3, by simp; omega, by omega, by rw [upd_ne q1]; exact hl, fun b o hb => by rw [upd_ne (o6 hb).1]; exact sa b o hb⟩⟩))⟩)))
    · have ty : tyV K "list" (.ref l3) Hb := .inl ⟨rfl, y3, sqL h3⟩
      exact g_name (s_drop (t_bm (t_var rfl ⟨ty, a_cons (t_c (a_nil ⟨l3, y3, .int 0, rfl, rfl, h3, by omega, nx_of ⟨_, y1, _, rfl, by rw [upd_ne l13]; exact h1, upd_same, by omega, by simp; omega, by rw [upd_ne q3]; exact hl, fun b o hb => by rw [upd_ne (o6 hb).2.1]; exact sa b o hb⟩⟩))⟩)))
  rintro σ' H9 ⟨x3, _, _, rfl, _, _, _, _, _, s69⟩
  clear g1 f1 g2 f2 it2 g3 f3 hq q1 q3 l13 o6 n1 n2 ex0 e3 ht7 hx7 hx6
  have ht9 := ht6.same (off_same s69)
  have hv9 := dp_same (off_same s69) _ _ hv6
  have kn9 := kn6.same s69
  have dV9 := dp_same (off_same s69) _ _ dV6
  have s09 := s06.trans s69
  clear s7 s8 s78 s69 ht6 hv6 kn6 dV6
  -- at(x, y)
  refine nx_of (s_seq (s_for (K := K) (S := S) (b := false) (ds := (List.range RR.length).map nD) kn9 (fun Q q => t_var rfl (q _ _ (Same.refl _) dV9)) fun xs Ha sa kna hxs lxs => ?_))
  refine ⟨fun i σ' H' => ∃ x4 : Option V, σ' = [some (.ref x), some v, some (.ref lV), x3, x4, none, none, none, none, none, none, none, none, none] ∧ Same Ha H', ⟨_, rfl, Same.refl _⟩, fun i σ' H' _ ⟨_, _, z⟩ => off_sub.trans z, ?_, ?_⟩
  · rintro i y d σ' Hb hd dy ⟨x4, rfl, sb⟩
    obtain ⟨m, hm, hmr, rfl⟩ := at_map hd
    obtain ⟨rfl, hi⟩ := rng_get hm
    cases dy
    have knb := kna.same sb
    have s9b := sa.trans sb
    have htb := ht9.same (off_same s9b)
    have hvb := dp_same (off_same s9b) _ _ hv9
    have dVb := dp_same (off_same s9b) _ _ dV9
    have eR := row_at tb hi
    have body : ∀ (j : Nat) (Hc : Hp) (Sc : Addr → Prop), j ∈ List.range RR.length → Kn Sc Hc → Same (off S Hb) (off Sc Hc) → ∀ Q : VK, (∀ y H', Same Hc H' → Dp K (off Sc H') y (nD (at_ RR m j)) → Q y H') → spT K C e2n (fun R x => x.1 < R.length ∧ x.2 < R.length) (fun R x => nD (at_ R x.1 x.2)) [.ref x, .int (m : Nat), .int (j : Nat)] Hc Q E0 := fun j Hc Sc hj knc ho Q q =>
      ⟨Sc, RR, x, (m, j), _, rfl, knc, htb.same ho, tb, .cons (.int _) (.cons (.int _) .nil), ⟨hi, List.mem_range.mp hj⟩, fun v H' s d => q v H' s d⟩
    have obj : ∀ (Hc : Hp) (Sc : Addr → Prop), Same (off S Hb) (off Sc Hc) → ∃ dx v, Hc x = some (.ins C dx [("_rows", v)]) := fun Hc Sc ho => by
      obtain ⟨dx, v, h0, _⟩ := htb.same ho
      exact ⟨dx, v, (off_some h0).2⟩
    refine g_name (s_if (b_or (b_test (t_op (lcM false (List.range RR.length) nD (fun j => nD (at_ RR m j)) knb (fun Q q => t_var rfl (q _ _ (Same.refl _) dVb)) (by rw [List.length_range]; omega) (fun _ => rfl) (fun j hj z Hc Sc sc knc dz hSc ho Q q => ?_) fun D Hc ys hD sc hd1 hd2 => ?_)))))
    · cases dz
      obtain ⟨dxc, vc, hxc⟩ := obj Hc Sc ho
      exact t_meth2 (t_var rfl ⟨x, dxc, _, rfl, hxc, rfl, t_var rfl (t_var rfl (body j Hc Sc hj knc ho Q q))⟩)
    have knc := knb.same sc
    have hvc := dp_same (off_same sc) _ _ hvb
    refine t_op (t_var rfl (t_var rfl (ix_d (i := m) off_sub hvc rfl (row_get tb nL hi) fun u du => ne_nums (l := (List.range RR.length).map fun j => at_ RR m j) (by unfold nL; rw [List.map_map]; exact hd2) du ⟨_, rfl, ifF (by rw [eR]; simp) ?_⟩)))
    have htc := htb.same (off_same sc)
    have dVc := dp_same (off_same sc) _ _ dVb
    refine b_test (t_op (lcM false (List.range RR.length) nD (fun j => nD (at_ RR m j)) knc (fun Q q => t_var rfl (q _ _ (Same.refl _) dVc)) (by rw [List.length_range]; omega) (fun _ => rfl) (fun j hj z Hd Sd sd knd dz hSd ho Q q => ?_) fun D2' Hd ys2 hD2 sd hd3 hd4 => ?_))
    · cases dz
      have ho2 := (off_same (S := S) sc).trans ho
      obtain ⟨dxc, vc, hxc⟩ := obj Hd Sd ho2
      exact t_methKR2 (t_var rfl ⟨x, dxc, _, rfl, hxc, rfl, t_var rfl (t_var rfl ⟨rfl, body j Hd Sd hj knd ho2 Q q⟩)⟩)
    have hvd := dp_same (off_same sd) _ _ hvc
    refine t_op (t_var rfl (t_var rfl (ix_d (i := m) off_sub hvd rfl (row_get tb nL hi) fun u du => ne_nums (l := (List.range RR.length).map fun j => at_ RR m j) (by unfold nL; rw [List.map_map]; exact hd4) du ⟨_, rfl, ifF (by rw [eR]; simp) (s_next ⟨_, rfl, sb.trans (sc.trans sd)⟩)⟩)))
  · rintro σ' Hb ⟨x4, rfl, sb⟩
    have s9b := sa.trans sb
    have ht10 := ht9.same (off_same s9b)
    have hv10 := dp_same (off_same s9b) _ _ hv9
    have kn10 := kn9.same s9b
    have dV10 := dp_same (off_same s9b) _ _ dV9
    have s010 := s09.trans s9b
    clear s9b sb sa hxs lxs kna ht9 hv9 kn9 dV9
    refine nx_of ?_
    have em : (RR.map fun r => (true, r)).map Prod.snd = RR := by rw [List.map_map]; exact List.map_id'' (fun _ => rfl) RR
    refine s_seq (s_set (mk_tabK true (RR.map fun r => (true, r)) (by rw [em]; exact tb) kn10 (fun Q q => t_cb1 (lcM false RR nL nT kn10 (fun Q q => t_var rfl (q _ _ (Same.refl _) hv10)) (by omega) (fun _ => rfl) (fun r hr y H3 S3 s3 kn3 dy hS3 ho Q q => t_cb1 (t_var rfl (tup_d kn3 dy rfl fun u H4 s4 d4 => q u H4 s4 d4))) fun D H3 ys hD s3 hd3 h3 => tup_d (kn10.same s3) h3 rfl fun u H4 s4 d4 => q u H4 (s3.trans s4) (by rw [List.map_map]; exact d4))) fun xs Hc sc hs => nx_of ?_))
    rw [em] at hs
    have htc := ht10.same (off_same sc)
    have hvc := dp_same (off_same sc) _ _ hv10
    have knc := kn10.same sc
    refine s_seq (s_set (mk_table (othR RR.length) (oth_tb p1) knc (fun Q q => ?_) fun xo Hd sd ho => nx_of ?_))
    · unfold othR at q
      refine t_if (b_test (t_op (t_cb1 (t_var rfl (len_d off_sub hvc rfl ?_)))))
      have cnt : ∀ (τ : L2.St) (H1 : Hp), τ[1]? = some (some v) → Same Hc H1 → ∀ Q : VK, Q (.int ((RR.length + 1 : Nat) : Int)) H1 → tOp (rI0 fun i j => V.int (i + j)) (tCB (Kh.rLen K) (tCons (tVar 1) tNil)) (tC (V.int 1)) τ H1 Q := fun τ H1 e s Q q => by
        refine t_op (t_cb1 (t_var e (len_d off_sub (dp_same (off_same s) _ _ hvc) rfl (t_c ⟨_, _, rfl, rfl, ?_⟩))))
        rw [List.length_map]; exact q
      rw [List.length_map]
      refine t_c ⟨_, _, rfl, rfl, _, rfl, if_b (fun c => ?_) (fun c => ?_)⟩
      · have lt : RR.length < 7 := by have := of_decide_eq_true c; omega
        rw [if_pos lt] at q
        exact (ev_rep (k := RR.length + 1) knc (ev_rep (k := RR.length + 1) knc (ev_int 0) (by omega) fun H1 s Q q => cnt _ H1 rfl s Q q) (by omega) fun H1 s Q q => cnt _ H1 rfl s Q q) Hc (Same.refl _) Q fun u H' s d => q u H' s (by rw [← rep_data]; exact d)
      · have lt : ¬ RR.length < 7 := by have := of_decide_eq_false c; omega
        rw [if_neg lt] at q
        exact (ev_lst (ds := [.list [.int 0]]) knc (ea_cons (ev_lst knc (ea_cons (ev_int 0) ea_nil) (by decide)) ea_nil) (by decide)) Hc (Same.refl _) Q fun u H' s d => q u H' s d
    have htd := htc.same (off_same sd)
    have hsd := hs.same (off_same sd)
    have hvd := dp_same (off_same sd) _ _ hvc
    have knd := knc.same sd
    refine s_seq (s_if (b_or (b_test (t_op (t_var rfl (t_var rfl ⟨tab_isI hsd, ty_tab htd, S, RR, xs, .ref x, rfl, knd, hsd, .inl ⟨RR, x, rfl, htd, fun He se => ⟨_, rfl, _, rfl, ifF (by simp) ?_⟩⟩⟩))))))
    have hte := htd.same (off_same se)
    have hoe := ho.same (off_same se)
    refine b_or (b_test (t_op (t_var rfl (t_var rfl ⟨tab_isI hoe, ty_tab hte, S, othR RR.length, xo, .ref x, rfl, knd.same se, hoe, .inl ⟨RR, x, rfl, hte, fun Hf sf => ⟨_, rfl, ifF (decide_eq_false (oth_ne p7)) ?_⟩⟩⟩))))
    have htf := hte.same (off_same sf)
    have knf := (knd.same se).same sf
    have hvf := dp_same (off_same (se.trans sf)) _ _ hvd
    refine b_val (t_cb1 (lcM false [nLL RR, .str (rText RR), .none, .int 0] (fun d => d) (fun _ => .bool false) knf (fun Q q => ?_) (show 4 ≤ 100000 by decide) (fun _ => rfl) (fun d hd z Hg Sg sg kng dz hSg hog Q q => ?_) fun D Hg ys hD sg hdg hg1 => ?_))
    · refine t_lst (a_cons (t_var rfl (a_cons (t_cb1 (t_var rfl ⟨.ref x, rfl, tab_isI htf, S, RR, x, rfl, knf, htf, tb, fun H1 s1 => ⟨_, rfl, a_cons (t_c (a_cons (t_c (a_nil ⟨(show 4 ≤ sizeLine by decide), fun p hp => ?_⟩))))⟩⟩)))))
      exact q _ _ (s1.trans (same_new hp)) (dp_newL (ds := [nLL RR, .str (rText RR), .none, .int 0]) (knf.same s1) hp (.cons (dp_same (off_same s1) _ _ hvf) (.cons (.str _) (.cons .non (.cons (.int _) .nil)))))
    · exact t_op (t_var rfl (t_var rfl ⟨tab_isI (htf.same hog), ty_data D2 dz, Sg, RR, x, z, rfl, kng, htf.same hog, .inr ⟨d, dz, fun H1 s1 => q _ H1 s1 (.bl false)⟩⟩))
    refine any_d (bs := [false, false, false, false]) off_sub (by exact hg1) ⟨_, rfl, ifF rfl (s_next ?_)⟩
    have s0g := ((s010.trans sc).trans sd).trans ((se.trans sf).trans sg)
    have htg := htf.same (off_same sg)
    have hvg := dp_same (off_same sg) _ _ hvf
    have kng := knf.same sg
    clear hs hsd hoe ho hdg hg1 htf hte htd htc ht10 hv10 hvc hvd hvf knc knd knf dV10
    have ea : (((RR.map nL).length : Nat) : Int) - 1 = ((RR.length - 1 : Nat) : Int) := by rw [List.length_map]; omega
    have eb : (((RR.map nL).length : Nat) : Int) / 2 = ((RR.length / 2 : Nat) : Int) := by rw [List.length_map]; omega
    refine s_seq ?_
    show tCons _ (tCons _ tNil) _ _ _
    refine a_cons (t_op (t_cb1 (t_var rfl (len_d off_sub hvg rfl (t_c (i_0 (congrArg V.int ea) ?_))))))
    refine a_cons (t_op (t_cb1 (t_var rfl (len_d off_sub hvg rfl (t_c (i_c ⟨by decide, by decide +kernel⟩ (congrArg V.int eb) ?_))))))
    refine a_nil ⟨_, _, rfl, nx_of ?_⟩
    have l1 : RR.length - 1 < RR.length := by omega
    have l2 : RR.length / 2 < RR.length := by omega
    have rl := tb.row _ (List.mem_of_getElem? (tb.get l1).1)
    have row : ∀ {τ : L2.St} {H1 : Hp} {Q : VK}, τ[1]? = some (some v) → τ[7]? = some (some (.int ((RR.length - 1 : Nat) : Int))) → Same Hg H1 → (∀ u, Dp K (off S H1) u (nL (RR.getD (RR.length - 1) [])) → Q u H1) → tOp (rIx K) (tVar 1) (tVar 7) τ H1 Q := fun {τ H1 Q} e1 e7 s q =>
      t_op (t_var e1 (t_var e7 (ix_d (i := RR.length - 1) off_sub (dp_same (off_same s) _ _ hvg) rfl (row_get tb nL l1) q)))
    have em2 : (((at_ RR (RR.length - 1) (RR.length / 2) : Nat) : Int) + 1) % (((RR.map nL).length : Nat) : Int) = (((at_ RR (RR.length - 1) (RR.length / 2) + 1) % RR.length : Nat) : Int) := by
      rw [List.length_map]; simp
    refine s_seq (s_set ((ev_cat (ds := ((RR.getD (RR.length - 1) []).take (RR.length / 2)).map nD ++ [nD ((at_ RR (RR.length - 1) (RR.length / 2) + 1) % RR.length)]) (es := ((RR.getD (RR.length - 1) []).drop (RR.length / 2 + 1)).map nD) kng (ev_cat (ds := ((RR.getD (RR.length - 1) []).take (RR.length / 2)).map nD) (es := [nD ((at_ RR (RR.length - 1) (RR.length / 2) + 1) % RR.length)]) kng (fun H1 s Q q => ?_) (ev_lst kng (ea_cons (fun H1 s Q q => ?_) ea_nil) (show 1 ≤ 100 by decide)) (by rw [List.length_map, List.length_take, rl]; simp only [List.length_singleton]; omega)) (fun H1 s Q q => ?_) (by rw [List.length_append, List.length_map, List.length_map, List.length_take, List.length_drop, rl]; simp only [List.length_singleton]; omega)) Hg (Same.refl _) _ fun u Hh sh du => nx_of ?_))
    · exact t_sl (row rfl rfl s fun ur dr => o_none (o_some (t_var rfl ⟨_, rfl, sl_take (kng.same s) dr (by rw [rl]; omega) q⟩)))
    · have g2 := num_get tb l1 l2
      refine t_op (t_cb1 (t_op (t_op (row rfl rfl s fun ur dr => t_var rfl (ix_d (i := RR.length / 2) off_sub dr rfl g2 fun z dz => t_c ?_)))))
      cases dz
      refine ⟨_, _, rfl, rfl, .inl ⟨_, rfl, t_cb1 (t_var rfl (len_d off_sub (dp_same (off_same s) _ _ hvg) rfl (i_c (by rw [List.length_map]; omega) (congrArg V.int em2) (q _ _ (Same.refl _) (.int _)))))⟩⟩
    · exact t_sl (row rfl rfl s fun ur dr => o_some (t_op (t_var rfl (t_c ⟨_, _, rfl, rfl, ⟨((RR.length / 2 + 1 : Nat) : Int), rfl, o_none (sl_drop (m := RR.length / 2 + 1) (kng.same s) dr (by rw [rl]; omega) q)⟩⟩))))
    replace du : Dp K (off S Hh) u (nL (nearRow RR)) := by
      unfold nearRow nL
      rw [List.map_append, List.map_append]; exact du
    have hth := htg.same (off_same sh)
    have hvh := dp_same (off_same sh) _ _ hvg
    have knh := kng.same sh
    refine s_seq (s_if (b_test (t_op (t_op (mk_table (nearR RR) (near_tb tb) knh (fun Q q => ?_) fun y Hi si hy => ?_)))))
    · refine (ev_cat (ds := (RR.take (RR.length - 1)).map nL) (es := [nL (nearRow RR)]) knh (fun H1 s Q q => t_sl (t_var rfl (o_none (o_some (t_var rfl ⟨_, rfl, sl_take (knh.same s) (dp_same (off_same s) _ _ hvh) (by omega) q⟩))))) (ev_lst knh (ea_cons (ev_var rfl du) ea_nil) (show 1 ≤ 100 by decide)) (by rw [List.length_map, List.length_take]; simp only [List.length_singleton]; omega)) Hh (Same.refl _) Q fun u H' s d => q u H' s ?_
      unfold nearR nLL
      rw [List.map_append]; exact d
    have hti := hth.same (off_same si)
    refine t_var rfl ⟨tab_isI hy, ty_tab hti, S, nearR RR, y, .ref x, rfl, knh.same si, hy, .inl ⟨RR, x, rfl, hti, fun Hj sj => ?_⟩⟩
    have hvj := dp_same (off_same (si.trans sj)) _ _ hvh
    rw [near_eq tb]
    refine t_op (t_cb1 (t_var rfl (len_d off_sub hvj rfl (t_c ⟨rfl, ⟨rfl, _, rfl, ifF ?_ (s_next ?_)⟩⟩))))
    · rw [List.length_map, show (1 : Int) = ((1 : Nat) : Int) from rfl, dec_int]; simp
    have s0j := s0g.trans (sh.trans (si.trans sj))
    have htj := hti.same (off_same sj)
    have knj := (knh.same si).same sj
    have wdj := wd.same s0j
    clear hy hti hth hvh knh du row htg hvg kng
    have hvl : (nLL RR) = .list (RR.map nL) := rfl
    refine s_seq (s_forK (S := S) (ds := odds RR.length) knj (fun Q q => ?_) fun us Hn sn knn hus lus => ?_)
    · refine (ev_lst (ds := odds RR.length) knj (ea_cons ev_non (ea_cons (fun H1 s Q q => t_un (t_c ⟨1, rfl, q _ _ (Same.refl _) (.int _)⟩)) (ea_cons (fun H1 s Q q => t_cb1 (t_var rfl (len_d off_sub (dp_same (off_same s) _ _ hvj) rfl (q _ _ (Same.refl _) (dp_int (by rw [List.length_map])))))) (ea_cons (ev_bl true) (ea_cons (ev_str "0") (ea_cons (ev_tup knj (ea_cons (ev_int 0) ea_nil) (by decide)) (ea_cons (fun H1 s Q q => t_op (t_c (t_c (i_c ⟨by decide, by decide, by decide⟩ (congrArg V.int ten20) (q _ _ (Same.refl _) (.int _)))))) ea_nil))))))) (show 7 ≤ 100 by decide)) Hj (Same.refl _) Q fun u H' s d => q u H' s d
    have wdn := wdj.same sn
    have htn := htj.same (off_same sn)
    have hvn := dp_same (off_same sn) _ _ hvj
    refine ⟨fun i σ' H' => ∃ x10 x11 : Option V, σ' = [some (.ref x), some v, some (.ref lV), x3, x4, some (.ref xs), some (.ref xo), some (.int ((RR.length - 1 : Nat) : Int)), some (.int ((RR.length / 2 : Nat) : Int)), some u, x10, x11, none, none] ∧ ExtN Hn H' ∧ Wd Ts S H', ⟨_, _, rfl, ExtN.refl _, wdn⟩, fun i σ' H' _ ⟨_, _, _, z, _⟩ => Kp.ext z, ?_, ?_⟩
    · rintro i z d σ' Ho hd dz ⟨x10, x11, rfl, eo, wo⟩
      have dm := List.mem_of_getElem? hd
      have bad := odds_bad p7 d dm
      have tls := odds_tls p7 d dm
      have okd := okS_shown d (odds_pl d dm)
      have ok0 := below_ok (n := 0) (m := RR.length) (by omega)
      refine g_name (s_seq (s_set (t_lst (a_cons ?_))))
      have hto : TabAt K C (off S Ho) RR x := htn.kp (Kp.ext eo)
      have dzo := (Kp.ext (S := S) eo).dp dz
      refine hd_err wo (E := CV) (f := "value") (wd := "value") (x := d) (by simp [hcs]) tls (fun H9 Ec Qc k9 w9 hE => ?_) fun u1 Hpp ep tp du1 => a_nil ⟨le1, fun p hp => nx_of ?_⟩
      · have ht9 := hto.kp k9
        obtain ⟨dx9, v9, hx9, _⟩ := id ht9
        exact t_meth2 (t_var rfl ⟨x, dx9, _, rfl, (off_some hx9).2, rfl, t_var rfl (t_c ⟨S, RR, x, z, .non, d, .none, rfl, w9.kn, ht9, tb, k9.dp dzo, .non, .inl ⟨bad, fun dd H' s h => hE dd z H' s h (dp_same (off_same s) _ _ (k9.dp dzo))⟩⟩)⟩)
      -- the second one
      have eop : ExtN Hn (upd Hpp p (.lst [u1])) := (eo.trans ep).trans (ExtN.of (same_new hp))
      have wp := (wo.ext ep tp).same (same_new (o := HO.lst [u1]) hp)
      have wpp : Wd Ts (plus S p) (upd Hpp p (.lst [u1])) := wp.plus upd_same
      have mvp : ∀ {H' : Hp}, ExtN Hn H' → Mv (off S Hn) (off (plus S p) H') := fun {H'} e => mv_new (eo.trans ep) hp e
      have tyl : tyV K "list" (.ref p) (upd Hpp p (.lst [u1])) := .inl ⟨rfl, [u1], sqL upd_same⟩
      refine s_seq (s_drop (t_bm (t_var rfl ⟨tyl, a_cons ?_⟩)))
      refine hd_err wpp (E := CV) (f := "value") (wd := "value") (x := d) (by simp [hcs]) tls (fun H9 Ec Qc k9 w9 hE => ?_) fun u2 Hq eq tq du2 => a_nil ⟨p, [u1], u2, rfl, rfl, eq _ _ upd_same (fun _ z => nomatch z), (show 1 < sizeLine by decide), nx_of ?_⟩
      · have mv9 : Mv (off S Hn) (off (plus S p) H9) := (mvp eop).trans k9
        have ht9 := htn.mv mv9
        obtain ⟨dx9, v9, hx9, _⟩ := id ht9
        exact t_meth2 (t_var rfl ⟨x, dx9, _, rfl, (off_some hx9).2, rfl, t_c (t_var rfl ⟨plus S p, RR, x, .int 0, z, .int 0, d, rfl, w9.kn, ht9, tb, .int _, mv9.dp dz, .inr ⟨ok0, bad, fun dd H' s h => hE dd z H' s h (dp_same (off_same s) _ _ (mv9.dp dz))⟩⟩)⟩)
      have hpq : Hq p = some (.lst [u1]) := eq _ _ upd_same (fun _ z => nomatch z)
      have eoq := eop.trans eq
      have wq := wpp.ext eq tq
      have wr : Wd Ts (plus S p) (upd Hq p (.lst ([u1] ++ [u2]))) := wq.mut hpq
      have eor : ExtN Hn (upd Hq p (.lst ([u1] ++ [u2]))) := ext_mut (eo.trans ep) hp eoq
      have hpr : (upd Hq p (.lst ([u1] ++ [u2]))) p = some (.lst [u1, u2]) := upd_same
      have off_r : off (plus S p) (upd Hq p (.lst ([u1] ++ [u2]))) = off (plus S p) Hq := off_mut (.inr rfl)
      have d2r : Dp K (off (plus S p) (upd Hq p (.lst ([u1] ++ [u2])))) u2 (toldD "value" d) := by rw [off_r]; exact du2
      have d1r : Dp K (off (plus S p) (upd Hq p (.lst ([u1] ++ [u2])))) u1 (toldD "value" d) := by
        rw [off_r]
        exact (mv_new (S := S) (ExtN.refl Hpp) hp (((ExtN.of (same_new hp))).trans eq)).dp du1
      have dzr : Dp K (off (plus S p) (upd Hq p (.lst ([u1] ++ [u2])))) z d := (mvp eor).dp dz
      generalize upd Hq p (.lst ([u1] ++ [u2])) = Hr at *
      refine s_if (b_test (t_op (t_var rfl ?_)))
      refine (ev_rep (K := K) (k := 2) (S := plus S p) wr.kn (ev_lst (ds := [.str "value", .str d.shown, .bool true]) wr.kn (ea_cons (ev_str "value") (ea_cons (fun H1 s Q q => t_cb1 (t_var rfl ⟨z, d, rfl, ⟨dp_same off_sub _ _ (dp_same (off_same s) _ _ dzr), tls⟩, q _ _ (Same.refl _) (.str _)⟩)) (ea_cons (ev_bl true) ea_nil))) (show 3 ≤ 100 by decide)) (by decide) fun H1 s Q q => t_c q) Hr (Same.refl _) _ fun u Hs ss ds => ?_
      have dps : Dp K Hs (.ref p) (.list [toldD "value" d, toldD "value" d]) := .lst (sqL (ss _ _ hpr)) (.cons (dp_same (off_sub.trans ss) _ _ d1r) (.cons (dp_same (off_sub.trans ss) _ _ d2r) .nil))
      refine ⟨_, _, dps, dp_same off_sub _ _ (show Dp K (off (plus S p) Hs) u (.list [toldD "value" d, toldD "value" d]) from ds), two_sh (okS_of _) okd, two_sh (okS_of _) okd, ⟨_, rfl, ifF (by rw [two_eqv]; rfl) (s_next ?_)⟩⟩
      exact ⟨_, _, rfl, eor.trans (ExtN.of ss), (wr.same ss).less fun b hb => .inl hb⟩
    · rintro σ' Ho ⟨x10, x11, rfl, eo, wo⟩
      have hto : TabAt K C (off S Ho) RR x := htn.kp (Kp.ext eo)
      have hvo := (Kp.ext (S := S) eo).dp hvn
      obtain ⟨dxo, vo, hxo, _⟩ := id hto
      refine nx_of (s_ret (t_op (t_meth0 (t_var rfl ⟨x, dxo, _, rfl, (off_some hxo).2, rfl, S, RR, x, (), [], rfl, wo.kn, hto, tb, .nil, trivial, fun u3 H3 s3 d3 => ?_⟩))))
      replace d3 : Dp K (off S H3) u3 (nLL RR) := d3
      refine t_var rfl ⟨_, _, dp_same off_sub _ _ d3, dp_same off_sub _ _ (dp_same (off_same s3) _ _ hvo), shd_shaped (shd_nLL RR), shd_shaped (shd_nLL RR), ?_⟩
      rw [eqv_nLL2, decide_eq_true rfl]
      exact q _ (((ExtN.of s0j).trans (ExtN.of sn)).trans (eo.trans (ExtN.of s3))) (wo.same s3).tab
end
end K31

set_option maxRecDepth 100000
set_option maxHeartbeats 4000000
namespace K31
open PySem PySem.Spec PyProof.Rows L2 Kh
open LamX (ExtN Tabs TabS TabB CodeO GivesTo LamS lamEnv lamCx)
/-- a text again and again -/
def rMulS : R2 := fun x y H Q => ∃ (z : Str) (i : Int), x = .str z ∧ y = .int i ∧ z.length ≤ 16 ∧ -(2 ^ 63) ≤ i ∧ i ≤ 1048576 ∧ Q (.str (Txt.mul z i)) H
theorem op_mulS {X : Cx} : OpR X (binaryOp .Mult) rMulS := by
  intro pins s σ H x y v u Q I rx ry h
  obtain ⟨z, i, rfl, rfl, hz, h1, h2, q⟩ := h
  obtain ⟨t, rfl⟩ := rx
  obtain ⟨t', rfl⟩ := ry
  exact PySem.W.KXi.mul rfl hz h1 h2 fun t' k _ _ => ⟨.str (Txt.mul z i), H, I.kept (t' := k) fun _ _ q => q, ⟨_, rfl⟩, q⟩
/-- a list of things -/
def TLs (K : PySem.W.Frag) (H : Hp) (v : V) (ths : List Th) : Prop := ∃ a xs, v = .ref a ∧ SqL K H a xs ∧ xs.length = ths.length ∧ ∀ (i : Nat) y th, xs[i]? = some y → ths[i]? = some th → ThAt K H y th
theorem TLs.thL {K : PySem.W.Frag} {H : Hp} {v : V} {ths : List Th} (h : TLs K H v ths) : ThL K H v ths := by
  obtain ⟨a, xs, e, hs, l, t⟩ := h
  exact ⟨a, xs, e, .inl hs, l, t⟩
theorem TLs.same {K : PySem.W.Frag} {H H' : Hp} {v : V} {ths : List Th} (e : Same H H') (h : TLs K H v ths) : TLs K H' v ths := by
  obtain ⟨a, xs, rfl, hs, l, t⟩ := h
  exact ⟨a, xs, rfl, e.seq hs, l, fun i y th h1 h2 => (t i y th h1 h2).same e⟩
theorem TLs.kp {K : PySem.W.Frag} {S : Addr → Prop} {H H' : Hp} {v : V} {ths : List Th} (e : Kp S H H') (h : TLs K (off S H) v ths) : TLs K (off S H') v ths := by
  obtain ⟨a, xs, rfl, hs, l, t⟩ := h
  exact ⟨a, xs, rfl, e.seq (sq_nt hs), l, fun i y th h1 h2 => (t i y th h1 h2).kp e⟩
theorem TLs.of {K : PySem.W.Frag} {H : Hp} {v : V} {ds : List PyData} (h : Dp K H v (.list ds)) : TLs K H v (ds.map Th.dat) := by
  obtain ⟨a, xs, rfl, hs, ha⟩ := list_at h
  refine ⟨a, xs, rfl, hs, by rw [List.length_map, dpa_len ha], fun i y th h1 h2 => ?_⟩
  obtain ⟨d, dj, dy⟩ := dpa_at ha h1
  rw [List.getElem?_map, dj] at h2
  cases h2
  exact dy
/-- things one after the other -/
inductive ThAll (K : PySem.W.Frag) (H : Hp) : List V → List Th → Prop
  | nil : ThAll K H [] []
  | cons {v : V} {th : Th} {vs : List V} {ths : List Th} (h : ThAt K H v th) (t : ThAll K H vs ths) : ThAll K H (v :: vs) (th :: ths)
theorem ThAll.len {K : PySem.W.Frag} {H : Hp} {vs : List V} {ths : List Th} (h : ThAll K H vs ths) : vs.length = ths.length := by
  induction h with
  | nil => rfl
  | cons _ _ ih => rw [List.length_cons, List.length_cons, ih]
theorem ThAll.at {K : PySem.W.Frag} {H : Hp} {vs : List V} {ths : List Th} (h : ThAll K H vs ths) : ∀ (i : Nat) y th, vs[i]? = some y → ths[i]? = some th → ThAt K H y th := by
  induction h with
  | nil => intro i y th h; simp at h
  | cons h _ ih =>
    intro i y th h1 h2
    cases i with
    | zero => simp at h1 h2; subst h1; subst h2; exact h
    | succ i => simp at h1 h2; exact ih i y th h1 h2
theorem ThAll.same {K : PySem.W.Frag} {H H' : Hp} {vs : List V} {ths : List Th} (e : Same H H') (h : ThAll K H vs ths) : ThAll K H' vs ths := by
  induction h with
  | nil => exact .nil
  | cons h _ ih => exact .cons (h.same e) ih
section
variable {K : PySem.W.Frag} {S : Addr → Prop} {H0 H : Hp} {σ : L2.St} {C CT : Addr}
theorem tls_new {D : Addr} {vs : List V} {ths : List Th} (kn : Kn S H) (h : H D = none) (a : ThAll K (off S H) vs ths) : TLs K (off S (upd H D (.lst vs))) (.ref D) ths :=
  ⟨D, vs, rfl, sqL (by rw [off_out (kn.new h)]; exact upd_same), a.len, (a.same (off_same (same_new h))).at⟩
/-- a thing, told anew -/
def EvTh (K : PySem.W.Frag) (S : Addr → Prop) (H0 : Hp) (σ : L2.St) (te : TE) (th : Th) : Prop := ∀ H1, Same H0 H1 → ∀ Q : VK, (∀ u H', Same H1 H' → ThAt K (off S H') u th → Q u H') → te σ H1 Q
def EvTA (K : PySem.W.Frag) (S : Addr → Prop) (H0 : Hp) (σ : L2.St) (ta : TA) (ths : List Th) : Prop := ∀ H1, Same H0 H1 → ∀ q : List V → Hp → Prop, (∀ us H', Same H1 H' → ThAll K (off S H') us ths → q us H') → ta σ H1 q
/-- a list of things, told anew -/
def EvL (K : PySem.W.Frag) (S : Addr → Prop) (H0 : Hp) (σ : L2.St) (te : TE) (ths : List Th) : Prop := ∀ H1, Same H0 H1 → ∀ Q : VK, (∀ u H', Same H1 H' → TLs K (off S H') u ths → Q u H') → te σ H1 Q
theorem et_d {te : TE} {d : PyData} (h : EvD K S H0 σ te d) : EvTh K S H0 σ te (.dat d) := h
theorem et_dic (kn : Kn S H0) : EvTh K S H0 σ tDNewK .dic := fun H1 s Q q => fun p hp => q _ _ (same_new hp) ⟨p, rfl, by rw [off_out ((kn.same s).new hp)]; exact upd_same⟩
theorem et_var {i : Nat} {v : V} {th : Th} (hi : σ[i]? = some (some v)) (h : ThAt K (off S H0) v th) : EvTh K S H0 σ (tVar i) th := fun H1 s Q q => t_var hi (q _ _ (Same.refl _) (h.same (off_same s)))
theorem eta_nil : EvTA K S H0 σ tNil [] := fun H1 s q k => a_nil (k _ _ (Same.refl _) .nil)
theorem eta_cons {te : TE} {ta : TA} {th : Th} {ths : List Th} (h : EvTh K S H0 σ te th) (h2 : EvTA K S H0 σ ta ths) : EvTA K S H0 σ (tCons te ta) (th :: ths) := fun H1 s q k =>
  a_cons (h H1 s _ fun u H2 s2 d2 => h2 H2 (s.trans s2) _ fun us H3 s3 d3 => k _ _ (s2.trans s3) (.cons (d2.same (off_same s3)) d3))
theorem el_lst {ta : TA} {ths : List Th} (kn : Kn S H0) (h : EvTA K S H0 σ ta ths) (l : ths.length ≤ 100) : EvL K S H0 σ (tLst ta) ths := fun H1 s Q q =>
  t_lst (h H1 s _ fun us H2 s2 d2 => ⟨by rw [d2.len]; exact Nat.le_trans l (by decide), fun r hr => q _ _ (s2.trans (same_new hr)) (tls_new (kn.same (s.trans s2)) hr d2)⟩)
theorem el_d {te : TE} {ds : List PyData} (h : EvD K S H0 σ te (.list ds)) : EvL K S H0 σ te (ds.map Th.dat) := fun H1 s Q q => h H1 s Q fun u H' s' d => q u H' s' (.of d)
theorem el_var {i : Nat} {v : V} {ths : List Th} (hi : σ[i]? = some (some v)) (h : TLs K (off S H0) v ths) : EvL K S H0 σ (tVar i) ths := fun H1 s Q q => t_var hi (q _ _ (Same.refl _) (h.same (off_same s)))
theorem el_cat {t1 t2 : TE} {as bs : List Th} (kn : Kn S H0) (h : EvL K S H0 σ t1 as) (h2 : EvL K S H0 σ t2 bs) (l : as.length + bs.length ≤ 100000) : EvL K S H0 σ (tOp (rCatS K) t1 t2) (as ++ bs) := fun H1 s Q q => by
  refine t_op (h H1 s _ fun u H2 s2 d2 => h2 H2 (s.trans s2) _ fun v H3 s3 d3 => ?_)
  obtain ⟨a, xs, rfl, hx, lx, tx⟩ := d2.same (off_same s3)
  obtain ⟨b, ys, rfl, hy, ly, ty⟩ := d3
  refine ⟨a, b, xs, ys, rfl, rfl, off_sub.seq hx, off_sub.seq hy, by rw [lx, ly]; exact Nat.le_trans l (by decide), fun p hp => q _ _ ((s2.trans s3).trans (same_new hp)) ?_⟩
  have kn3 := kn.same ((s.trans s2).trans s3)
  refine ⟨p, xs ++ ys, rfl, sqL (by rw [off_out (kn3.new hp)]; exact upd_same), by rw [List.length_append, List.length_append, lx, ly], fun i y th h1 h2 => ThAt.same (off_same (same_new hp)) ?_⟩
  by_cases c : i < xs.length
  · rw [List.getElem?_append_left c] at h1
    rw [List.getElem?_append_left (by omega)] at h2
    exact tx i y th h1 h2
  · rw [List.getElem?_append_right (by omega)] at h1
    rw [List.getElem?_append_right (by omega)] at h2
    rw [← lx] at h2
    exact ty _ y th h1 h2
/-- Table(e), e no table -/
theorem mk_none {te : TE} {th : Th} {Ec : XK} {Q : VK} (kn : Kn S H) (h : EvTh K S H σ te th) (no : NoTab th) (e : ∀ dd H', Same H H' → H' dd = some (.xd [("position", .non)]) → Ec (.ref CT) (some dd) H') : tMake C (spInitX K C CT) [] Ec (tCons te tNil) σ H Q := by
  refine t_make1 (h H (Same.refl _) _ fun u H1 s1 du x dx hx hdx ne => ?_)
  have kn1 := kn.same s1
  have sm : Same H1 (upd (upd H1 dx (.own x)) x (.ins C dx [])) := fun b u e => by
    rw [upd_ne (ne_of_none e hx), upd_ne (ne_of_none e hdx)]; exact e
  have hup : (upd (upd H1 dx (.own x)) x (.ins C dx [])) x = some (.ins C dx []) := upd_same
  exact ⟨plus S x, x, dx, u, rfl, (kn1.same sm).plus (some_ne hup), .inr rfl, hup, .inl ⟨th, du.same (off_plus hx sm), no, fun dd H' s hd => e dd H' ((s1.trans sm).trans s) hd⟩⟩
/-- Table(e), a row of e is none -/
theorem mk_bad {te : TE} {ths : List Th} {i : Nat} {th : Th} {Ec : XK} {Q : VK} (kn : Kn S H) (h : EvL K S H σ te ths) (l7 : ths.length ≤ 7) (hi : ths[i]? = some th) (bad : rowT ths.length th = false) (few : ∀ th ∈ ths, Few th)
    (good : ∀ (j : Nat) th, j < i → ths[j]? = some th → rowT ths.length th = true) (e : ∀ dd H', Same H H' → H' dd = some (.xd [("position", .int (i : Nat))]) → Ec (.ref CT) (some dd) H') : tMake C (spInitX K C CT) [] Ec (tCons te tNil) σ H Q := by
  refine t_make1 (h H (Same.refl _) _ fun u H1 s1 du x dx hx hdx ne => ?_)
  have kn1 := kn.same s1
  have sm : Same H1 (upd (upd H1 dx (.own x)) x (.ins C dx [])) := fun b u e => by
    rw [upd_ne (ne_of_none e hx), upd_ne (ne_of_none e hdx)]; exact e
  have hup : (upd (upd H1 dx (.own x)) x (.ins C dx [])) x = some (.ins C dx []) := upd_same
  exact ⟨plus S x, x, dx, u, rfl, (kn1.same sm).plus (some_ne hup), .inr rfl, hup, .inr (.inl ⟨ths, i, th, (du.thL).same (off_plus hx sm), l7, hi, bad, few, good, fun dd H' s hd => e dd H' ((s1.trans sm).trans s) hd⟩)⟩
/-- Table(e), e right -/
theorem mk_good {te : TE} {Ec : XK} {Q : VK} (b : Bool) (rs : List (Bool × List Nat)) (tb : Tb (rs.map Prod.snd)) (kn : Kn S H) (h : EvD K S H σ te (sq b (rs.map rowD))) (q : ∀ v H', Same H H' → Q v H') : tMake C (spInitX K C CT) [] Ec (tCons te tNil) σ H Q := by
  refine t_make1 (h H (Same.refl _) _ fun u H1 s1 du x dx hx hdx ne => ?_)
  have kn1 := kn.same s1
  have sm : Same H1 (upd (upd H1 dx (.own x)) x (.ins C dx [])) := fun b u e => by
    rw [upd_ne (ne_of_none e hx), upd_ne (ne_of_none e hdx)]; exact e
  have hup : (upd (upd H1 dx (.own x)) x (.ins C dx [])) x = some (.ins C dx []) := upd_same
  exact ⟨plus S x, x, dx, u, rfl, (kn1.same sm).plus (some_ne hup), .inr rfl, hup, .inr (.inr ⟨b, rs, dp_same (off_plus hx sm) _ _ du, tb, fun H' v1 sb hx' d1 => ⟨rfl, q _ H' fun c o hc => sb c o (ne_of_none (s1 c o hc) hx) (sm c o (s1 c o hc))⟩⟩)⟩
/-- for over things, where tables may change -/
theorem s_forT {t : TE} {g : TG} {tb : TS} {D : Ends} {ths : List Th} (kn : Kn S H) (hev : EvL K S H σ t ths)
    (step : ∀ H1, Same H H1 → Kn S H1 → ∃ Pv : Nat → L2.St → Hp → Prop, Pv 0 σ H1 ∧ (∀ i σ' H', i ≤ ths.length → Pv i σ' H' → Kp S H1 H') ∧
      (∀ i x th σ' H', ths[i]? = some th → ThAt K (off S H1) x th → Pv i σ' H' → g x σ' H' fun σ2 H2 => tb { D with nx := Pv (i + 1), ct := Pv (i + 1), bk := D.nx } σ2 H2) ∧ (∀ σ' H', Pv ths.length σ' H' → D.nx σ' H')) :
    tFor (fun σ H R => iList K t σ H R ∨ iTup K t σ H R) g tb D σ H := by
  refine .inl (hev H (Same.refl _) _ fun u H1 s1 du => ?_)
  obtain ⟨a, xs, rfl, hs, ln, ht⟩ := du
  obtain ⟨Pv, h0, hG, hst, hd⟩ := step H1 s1 (kn.same s1)
  refine ⟨a, rfl, ⟨xs, off_sub.seq hs⟩, for_it (walk_list (K := K) (a := a) (xs := xs)) Pv h0 (fun i σ' H' hi p => off_sub.seq ((hG i σ' H' (by omega) p).seq (sq_nt hs))) (fun i x σ' H2 H3 hi p y => ?_) (fun σ' H' p => hd σ' H' (by rw [← ln]; exact p))⟩
  obtain ⟨rfl, xi⟩ := y
  have e : ths[i]? = some ths[i] := List.getElem?_eq_getElem (by omega)
  exact hst i x _ σ' H3 e (ht i x _ xi e) p
end
/-- all but p and the tables stay -/
def EB (p : Addr) (H H' : Hp) : Prop := ∀ b o, b ≠ p → H b = some o → (∀ ps, o ≠ .tbl ps) → H' b = some o
theorem EB.ext {p : Addr} {H H' : Hp} (e : ExtN H H') : EB p H H' := fun b o _ h n => e b o h n
theorem EB.sb {p : Addr} {H H' : Hp} (e : SameBut p H H') : EB p H H' := fun b o n h _ => e b o n h
theorem EB.trans {p : Addr} {H H1 H2 : Hp} (a : EB p H H1) (b : EB p H1 H2) : EB p H H2 := fun c o n h m => b c o n (a c o n h m) m
theorem EB.kp {S : Addr → Prop} {p : Addr} {H H' : Hp} (e : EB p H H') (hS : S p) : Kp S H H' := fun b o h => by
  obtain ⟨h1, h2⟩ := nt_some h
  obtain ⟨n, h3⟩ := off_some h1
  rw [off_out n]
  exact e b o (fun z => n (z ▸ hS)) h3 h2
theorem PotAt.ext {p : Addr} {H H' : Hp} (h : PotAt H p) (e : ExtN H H') : PotAt H' p := by
  obtain ⟨x, y, h, hy⟩ := h
  exact ⟨x, y, e _ _ h (fun _ z => nomatch z), hy⟩
theorem Wd.pot {T : List (Addr × Str)} {S : Addr → Prop} {H H' : Hp} {p : Addr} (w : Wd T S H) (pt : PotAt H p) (sb : SameBut p H H') (pt' : PotAt H' p) : Wd T S H' := by
  obtain ⟨x, y, h, _⟩ := pt
  obtain ⟨x', y', h', _⟩ := pt'
  refine ⟨fun q hq => ?_, fun b hb => ?_⟩
  · obtain ⟨ps, h1, h2, h3⟩ := w.tab q hq
    refine ⟨ps, sb _ _ (fun e => by rw [e, h] at h1; cases h1) h1, h2, fun pos cv hc => ?_⟩
    obtain ⟨c, e1, e2⟩ := h3 pos cv hc
    refine ⟨c, e1, sb _ _ (fun e => ?_) e2⟩
    rw [e, h] at e2
    unfold CodeO at e2
    cases e2
  · rcases w.kt b hb with z | ⟨o, z, n⟩
    · exact .inl z
    · by_cases e : b = p
      · subst e; exact .inr ⟨_, h', fun _ z => nomatch z⟩
      · exact .inr ⟨o, sb _ _ e z, n⟩
end K31

set_option maxRecDepth 100000
set_option maxHeartbeats 4000000
namespace K31
open PySem PySem.Spec PyProof.Rows L2 Kh
/-- rows that are none -/
def bads (n : Nat) : List Th := [.dat .none, .dat (.list []), .dat (.int 0), .dat (.str (Txt.mul "0" n)), .dat (.list (List.replicate (n + 1) (.int 0))), .dat (.list (List.replicate (n - 1) (.int 0))), .dat (.list (List.replicate n (nD n))), .dat (.list (List.replicate n (.int (-1)))), .dat (.list (List.replicate n (.bool true)))]
def moreT (n : Nat) (r : List Nat) : List Th := [.dat (.list (List.replicate n .none)), .dat (.list (List.replicate n (.tuple [.int 0]))), .dic, .dat (.list (List.replicate n (.str "0"))), .dat (.list (((r.take (n - 1)).map nD) ++ [.bool false]))]
theorem bad_len {n : Nat} {ds : List PyData} (h : ds.length ≠ n) : rowT n (.dat (.list ds)) = false := by
  show (decide (ds.length = n) && ds.all (belowD (n : Nat))) = false
  rw [decide_eq_false h]; rfl
theorem bad_mem {n : Nat} {ds : List PyData} {d : PyData} (h : d ∈ ds) (e : belowD ((n : Nat) : Int) d = false) : rowT n (.dat (.list ds)) = false := by
  show (decide (ds.length = n) && ds.all (belowD (n : Nat))) = false
  have : ds.all (belowD ((n : Nat) : Int)) = false := by
    rw [List.all_eq_false]
    exact ⟨d, h, by rw [e]; exact Bool.false_ne_true⟩
  rw [this, Bool.and_false]
theorem bad_rep {n k : Nat} {d : PyData} (hk : 1 ≤ k) (e : belowD ((n : Nat) : Int) d = false) : rowT n (.dat (.list (List.replicate k d))) = false := bad_mem (List.mem_replicate.mpr ⟨by omega, rfl⟩) e
theorem bads_bad {n : Nat} (h1 : 1 ≤ n) (h7 : n ≤ 7) {r : List Nat} (hr : r.length = n) : ∀ th ∈ bads n ++ moreT n r, rowT n th = false ∧ Few th := by
  intro th ht
  simp only [bads, moreT, List.mem_append, List.mem_cons, List.not_mem_nil, or_false] at ht
  have few : ∀ ds : List PyData, ds.length ≤ 1000 → Few (.dat (.list ds)) := fun ds l es e => by cases e; exact l
  rcases ht with (rfl | rfl | rfl | rfl | rfl | rfl | rfl | rfl | rfl) | (rfl | rfl | rfl | rfl | rfl)
  · exact ⟨rfl, fun ds e => nomatch e⟩
  · exact ⟨bad_len (by simp; omega), few _ (by simp)⟩
  · exact ⟨rfl, fun ds e => nomatch e⟩
  · exact ⟨rfl, fun ds e => nomatch e⟩
  · exact ⟨bad_len (by simp), few _ (by simp; omega)⟩
  · exact ⟨bad_len (by simp; omega), few _ (by simp; omega)⟩
  · exact ⟨bad_rep h1 (by simp [belowD, nD]), few _ (by simp; omega)⟩
  · exact ⟨bad_rep h1 (by simp [belowD]), few _ (by simp; omega)⟩
  · exact ⟨bad_rep h1 rfl, few _ (by simp; omega)⟩
  · exact ⟨bad_rep h1 rfl, few _ (by simp; omega)⟩
  · exact ⟨bad_rep h1 rfl, few _ (by simp; omega)⟩
  · exact ⟨rfl, fun ds e => nomatch e⟩
  · exact ⟨bad_rep h1 rfl, few _ (by simp; omega)⟩
  · exact ⟨bad_mem (d := .bool false) (by simp) rfl, few _ (by simp; omega)⟩
/-- what is no table -/
def nots : List Th := [.dat .none, .dat (.int 0), .dat (.list []), .dat (.tuple []), .dic, .dat (.str "0"), .dat (.bool true), .dat (.list (List.replicate 8 (.list [.int 0])))]
theorem nots_no : ∀ th ∈ nots, NoTab th := by
  intro th ht
  simp only [nots, List.mem_cons, List.not_mem_nil, or_false] at ht
  rcases ht with rfl | rfl | rfl | rfl | rfl | rfl | rfl | rfl
  · exact fun ds e => nomatch e
  · exact fun ds e => nomatch e
  · exact fun ds e => by cases e; exact ⟨.inl rfl, by decide⟩
  · exact fun ds e => by cases e; exact ⟨.inl rfl, by decide⟩
  · exact fun ds e => nomatch e
  · exact fun ds e => nomatch e
  · exact fun ds e => nomatch e
  · exact fun ds e => by cases e; exact ⟨.inr (by simp), by simp⟩
abbrev rT (r : List Nat) : Th := .dat (nL r)
theorem rT_good {n : Nat} {r : List Nat} (h1 : r.length = n) (h2 : ∀ m ∈ r, m < n) : rowT n (rT r) = true := rowT_good (r := (false, r)) h1 h2
theorem rT_few {n : Nat} {r : List Nat} (h1 : r.length = n) (h2 : n ≤ 7) : Few (rT r) := fun ds e => by
  cases e
  rw [List.length_map]; omega
/-- a wrong row among right ones -/
def thsA (R : List (List Nat)) (i : Nat) (th : Th) : List Th := (R.take i).map rT ++ [th] ++ (R.drop (i + 1)).map rT
def thsB (R : List (List Nat)) (i : Nat) (th : Th) : List Th := List.replicate i (rT (R.getD 0 [])) ++ [th] ++ List.replicate (R.length - i - 1) (.dat .none)
theorem get_mid {α : Type} {as bs : List α} {x : α} {i : Nat} (h : as.length = i) : (as ++ [x] ++ bs)[i]? = some x := by
  subst h
  rw [List.append_assoc, List.getElem?_append_right (Nat.le_refl _), Nat.sub_self]; rfl
theorem get_pre {α : Type} {as bs : List α} {x y : α} {i j : Nat} (h : as.length = i) (hj : j < i) (e : (as ++ [x] ++ bs)[j]? = some y) : y ∈ as := by
  subst h
  rw [List.append_assoc, List.getElem?_append_left hj] at e
  exact List.mem_of_getElem? e
section
variable {R : List (List Nat)} {i : Nat} {th : Th}
theorem thsA_len (hi : i < R.length) : (thsA R i th).length = R.length := by unfold thsA; simp; omega
theorem thsB_len (hi : i < R.length) : (thsB R i th).length = R.length := by unfold thsB; simp; omega
theorem thsA_at (hi : i < R.length) : (thsA R i th)[i]? = some th := get_mid (by simp; omega)
theorem thsB_at : (thsB R i th)[i]? = some th := get_mid (by simp)
theorem thsA_few (tb : Tb R) (ft : Few th) : ∀ t ∈ thsA R i th, Few t := fun t ht => by
  unfold thsA at ht
  rw [List.mem_append, List.mem_append] at ht
  rcases ht with (ht | ht) | ht
  · obtain ⟨r, hr, rfl⟩ := List.mem_map.mp ht
    exact rT_few (tb.row r (List.mem_of_mem_take hr)) tb.few
  · rw [List.mem_singleton.mp ht]; exact ft
  · obtain ⟨r, hr, rfl⟩ := List.mem_map.mp ht
    exact rT_few (tb.row r (List.mem_of_mem_drop hr)) tb.few
theorem thsB_few (tb : Tb R) (ft : Few th) : ∀ t ∈ thsB R i th, Few t := fun t ht => by
  unfold thsB at ht
  rw [List.mem_append, List.mem_append] at ht
  rcases ht with (ht | ht) | ht
  · rw [(List.mem_replicate.mp ht).2]
    have e := (tb.get (i := 0) (by have := tb.pos; omega)).2
    exact rT_few (tb.row _ e) tb.few
  · rw [List.mem_singleton.mp ht]; exact ft
  · rw [(List.mem_replicate.mp ht).2]; exact fun ds e => nomatch e
theorem thsA_good (tb : Tb R) (hi : i < R.length) : ∀ (j : Nat) t, j < i → (thsA R i th)[j]? = some t → rowT (thsA R i th).length t = true := fun j t hj ht => by
  rw [thsA_len hi]
  obtain ⟨r, hr, rfl⟩ := List.mem_map.mp (get_pre (by simp; omega) hj ht)
  exact rT_good (tb.row r (List.mem_of_mem_take hr)) (tb.num r (List.mem_of_mem_take hr))
theorem thsB_good (tb : Tb R) (hi : i < R.length) : ∀ (j : Nat) t, j < i → (thsB R i th)[j]? = some t → rowT (thsB R i th).length t = true := fun j t hj ht => by
  rw [thsB_len hi]
  rw [(List.mem_replicate.mp (get_pre (by simp) hj ht)).2]
  have e := (tb.get (i := 0) (by have := tb.pos; omega)).2
  exact rT_good (tb.row _ e) (tb.num _ e)
end
theorem cut_init (xs : List V) : cutV xs none (some (-1)) = xs.take (xs.length - 1) := by
  unfold cutV
  rw [HT.sIx_none]
  have e : HT.sIx xs.length xs.length (some (-1)) = xs.length - 1 := by
    show (if (-1 : Int) < 0 then ((-1 : Int) + (xs.length : Int)).toNat else min (-1 : Int).toNat xs.length) = _
    rw [if_pos (by decide)]; omega
  rw [e, List.drop_zero, Nat.sub_zero]
theorem sl_init {K : PySem.W.Frag} {S : Addr → Prop} {H : Hp} {x : V} {ds : List PyData} {Q : VK} (kn : Kn S H) (hx : Dp K (off S H) x (.list ds)) (q : ∀ u H', Same H H' → Dp K (off S H') u (.list (ds.take (ds.length - 1))) → Q u H') : rSlL K x none (some (-1)) H Q := by
  obtain ⟨l, xs, rfl, h1, d1⟩ := list_at hx
  refine ⟨l, xs, rfl, off_sub.seq h1, fun p hp => ?_⟩
  rw [cut_init, dpa_len d1]
  exact q _ _ (same_new hp) (dp_newL kn hp (dpa_take _ d1))
theorem shown_none : PyData.none.shown = ("None" : Str) := by rw [PyData.shown]
theorem seven_tb : Tb (List.replicate 7 (List.replicate 7 0)) := ⟨by decide, by decide, by decide, by decide⟩
theorem let_eqv : PyData.eqv (.list [.str "let"]) (.list [.str "let"]) = true := by simp [PyData.eqv, PyData.eqvAll]
theorem let_sh : SeqAt.shaped (.list [.str "let"]) = true := shaped_list fun d hd => by
  rw [List.mem_singleton.mp hd]; exact shd_str (okS_of _)
end K31

set_option maxRecDepth 100000
set_option maxHeartbeats 8000000
namespace K31
open PySem PySem.Spec PyProof.Rows L2 Kh
open LamX (ExtN Tabs TabS TabB CodeO GivesTo LamS lamEnv lamCx)
section
variable {P : Program} {w : World} {K : PySem.W.Frag} {mg : Str → Option Value} {base : Heap} {a : Nat → Addr} {fd : Nat → FuncData} {C : Addr} {tk : Nat → Tok} {CS CT CV CM : Addr} {Ts : List (Addr × Str)}
def spRefR (K : PySem.W.Frag) (Ts : List (Addr × Str)) : Sp := fun vs H Q _ => ∃ (S : Addr → Prop) (p : Addr) (R : List (List Nat)) (v : V), vs = [.ref p, v] ∧ Wd Ts S H ∧ S p ∧ PotAt H p ∧ Tb R ∧ Dp K (off S H) v (nLL R) ∧ ∀ H', EB p H H' → PotAt H' p → Tabs Ts H' → Q (.bl true) H'
theorem ok__law_refused_right (T : Txt K mg a fd C tk) (U : TxC K mg a C) (R : TxR K mg a fd CS CT CV CM) (L : Lm base mg Ts (fd 27) "_law_refused_right") : FnG P w K mg base 30 (a 27) (fd 27) ["_law_pot_here", "_law_rows"] (spRefR K Ts) := by
  obtain ⟨c, Pt, hcode, TB, hmT, hu⟩ := L
  have G_Table_initX := ok_Table_initX (P := P) (w := w) (base := base) T U R
  have G__law_draw := ok__law_draw (P := P) (w := w) (base := base) T
  refine fun_okC T.F__law_refused_right sc__law_refused_right (fun vs H Q E h => by obtain ⟨_, _, _, _, rfl, _⟩ := h; rfl) (fun A outer s H vs Q E hg hr h => ?_)
  obtain ⟨S, p, RR, v, rfl, wd, hS, pt, tb, hv, q⟩ := h
  refine ⟨_, (pss_cons (ps_asg (pe_tup (pa_cons (pe_callB (k_len (K := K)) (by rfl) T.z_len (by decide +kernel) (pa_cons (pv 1) pa_nil)) (pa_cons (pe_call G__law_draw (hr.mono (by omega)) (by rfl) T.m__law_draw T.F__law_draw.kp T.b__law_draw .nil pass0 (pa_cons (pv 0) (pa_cons (pe_callB (k_len (K := K)) (by rfl) T.z_len (by decide +kernel) (pa_cons (pv 1) pa_nil)) pa_nil))) pa_nil))) (pg_tup rfl (pgs_cons (pg_name (i := 2) sc__law_refused_right.nd rfl (Or.inr rfl)) (pgs_cons (pg_name (i := 3) sc__law_refused_right.nd rfl (Or.inr rfl)) pgs_nil))))
      (pss_cons (ps_for PassesOwn.never rfl (k_pi (K := K) (pe_lst (pa_cons pe_non (pa_cons pe_int (pa_cons (pe_lst pa_nil) (pa_cons (pe_tup pa_nil) (pa_cons pe_dnewK (pa_cons pe_str (pa_cons pe_bl (pa_cons (pe_op op_rep (pe_lst (pa_cons (pe_lst (pa_cons pe_int pa_nil)) pa_nil)) pe_int) pa_nil)))))))))) (pg_name (i := 4) sc__law_refused_right.nd rfl (Or.inr rfl))
        (pss_one (ps_if (pt_cmpR (k_neD (K := K) hr.units) (pe_heard (k := 11) T R hg TB hcode hmT hu (hr.mono (by omega)) (LamX.lamS_by (sc := defScope _law_refused_right_s) (by decide +kernel)) (fun _ _ _ _ _ _ _ hr2 => (pe_make U.M_Table G_Table_initX (hr2.mono (by omega)) (by rfl) U.m_Table T.b_Table_init .nil (passes_call (takes_of rfl rfl rfl rfl) fun _ _ _ _ h => h) (pa_cons (pv 4) pa_nil)))) (pe_lst (pa_cons pe_str (pa_cons pe_str (pa_cons pe_bl pa_nil)))) (nomark _))
          (pss_one (ps_ret pe_bl)) pss_nil)))
      (pss_cons (ps_set (i := 5) sc__law_refused_right.nd rfl (Or.inl rfl) (pe_lst (pa_cons pe_non (pa_cons (pe_lst pa_nil) (pa_cons pe_int (pa_cons (pe_op op_mulS pe_str (pv 2)) (pa_cons (pe_op op_rep (pe_lst (pa_cons pe_int pa_nil)) (pe_op op_add (pv 2) pe_int)) (pa_cons (pe_op op_rep (pe_lst (pa_cons pe_int pa_nil)) (pe_op op_sub (pv 2) pe_int)) (pa_cons (pe_op op_rep (pe_lst (pa_cons (pv 2) pa_nil)) (pv 2)) (pa_cons (pe_op op_rep (pe_lst (pa_cons (pe_un un_neg pe_int) pa_nil)) (pv 2)) (pa_cons (pe_op op_rep (pe_lst (pa_cons pe_bl pa_nil)) (pv 2)) pa_nil)))))))))))
      (pss_cons (ps_for PassesOwn.never rfl (k_pi (K := K) (pe_op (k_catS (K := K)) (pv 5) (pe_lst (pa_cons (pe_op op_rep (pe_lst (pa_cons pe_non pa_nil)) (pv 2)) (pa_cons (pe_op op_rep (pe_lst (pa_cons (pe_tup (pa_cons pe_int pa_nil)) pa_nil)) (pv 2)) (pa_cons pe_dnewK (pa_cons (pe_op op_rep (pe_lst (pa_cons pe_str pa_nil)) (pv 2)) (pa_cons (pe_op (k_catS (K := K)) (pe_slice (k_sl (K := K)) (pe_ix (k_ix (K := K)) (pv 1) (pv 3) (fun _ _ => rfl)) po_none (po_some (pe_un un_neg pe_int))) (pe_lst (pa_cons pe_bl pa_nil))) pa_nil)))))))) (pg_name (i := 4) sc__law_refused_right.nd rfl (Or.inr rfl))
        (pss_cons (ps_if (pt_cmpR (k_neD (K := K) hr.units) (pe_heard (k := 11) T R hg TB hcode hmT hu (hr.mono (by omega)) (LamX.lamS_by (sc := defScope _law_refused_right_s) (by decide +kernel)) (fun _ _ _ _ _ _ _ hr2 => (pe_make U.M_Table G_Table_initX (hr2.mono (by omega)) (by rfl) U.m_Table T.b_Table_init .nil (passes_call (takes_of rfl rfl rfl rfl) fun _ _ _ _ h => h) (pa_cons (pe_op (k_catS (K := K)) (pe_op (k_catS (K := K)) (pe_slice (k_sl (K := K)) (pv 1) po_none (po_some (pv 3))) (pe_lst (pa_cons (pv 4) pa_nil))) (pe_slice (k_sl (K := K)) (pv 1) (po_some (pe_op op_add (pv 3) pe_int)) po_none)) pa_nil)))) (pe_lst (pa_cons pe_str (pa_cons (pe_callB (k_reprA (K := K) hg hr.units) (by rfl) T.z_repr (by decide +kernel) (pa_cons (pv 3) pa_nil)) (pa_cons pe_bl pa_nil)))) (nomark _))
          (pss_one (ps_ret pe_bl)) pss_nil)
        (pss_one (ps_if (pt_cmpR (k_neD (K := K) hr.units) (pe_heard (k := 11) T R hg TB hcode hmT hu (hr.mono (by omega)) (LamX.lamS_by (sc := defScope _law_refused_right_s) (by decide +kernel)) (fun _ _ _ _ _ _ _ hr2 => (pe_make U.M_Table G_Table_initX (hr2.mono (by omega)) (by rfl) U.m_Table T.b_Table_init .nil (passes_call (takes_of rfl rfl rfl rfl) fun _ _ _ _ h => h) (pa_cons (pe_op (k_catS (K := K)) (pe_op (k_catS (K := K)) (pe_op op_rep (pe_lst (pa_cons (pe_ix (k_ix (K := K)) (pv 1) pe_int (fun _ _ => rfl)) pa_nil)) (pv 3)) (pe_lst (pa_cons (pv 4) pa_nil))) (pe_op op_rep (pe_lst (pa_cons pe_non pa_nil)) (pe_op op_sub (pe_op op_sub (pv 2) (pv 3)) pe_int))) pa_nil)))) (pe_lst (pa_cons pe_str (pa_cons (pe_callB (k_reprA (K := K) hg hr.units) (by rfl) T.z_repr (by decide +kernel) (pa_cons (pv 3) pa_nil)) (pa_cons pe_bl pa_nil)))) (nomark _))
          (pss_one (ps_ret pe_bl)) pss_nil))))
      (pss_one (ps_ret (pe_cmpR (k_eqD (K := K) hr.units) (pe_heard (k := 11) T R hg TB hcode hmT hu (hr.mono (by omega)) (LamX.lamS_by (sc := defScope _law_refused_right_s) (by decide +kernel)) (fun _ _ _ _ _ _ _ hr2 => (pe_make U.M_Table G_Table_initX (hr2.mono (by omega)) (by rfl) U.m_Table T.b_Table_init .nil (passes_call (takes_of rfl rfl rfl rfl) fun _ _ _ _ h => h) (pa_cons (pe_op op_rep (pe_lst (pa_cons (pe_op op_rep (pe_lst (pa_cons pe_int pa_nil)) pe_int) pa_nil)) pe_int) pa_nil)))) (pe_lst (pa_cons pe_str pa_nil)) (nomark _)))))))), ?_⟩
  have p1 := tb.pos
  have p7 := tb.few
  have kn := wd.kn
  refine s_seq (s_asgg (t_tup (a_cons (t_cb1 (t_var rfl (len_d off_sub hv rfl (a_cons (t_call2 (t_var rfl (t_cb1 (t_var rfl (len_d off_sub hv rfl ⟨p, (RR.map nL).length, rfl, pt, by rw [List.length_map]; omega, by rw [List.length_map]; omega, fun d H1 hd sb pt1 => a_nil ⟨le2, fun r hr => ?_⟩⟩))))))))))))
  rw [List.length_map] at hd ⊢
  have wd1 := Wd.pot wd pt sb pt1
  have hv1 := (EB.sb sb).kp hS |>.dp hv
  have s12 := same_new (o := HO.tup [V.int (RR.length : Nat), V.int (d : Nat)]) hr
  refine ⟨r, [_, V.int (d : Nat)], rfl, sqT upd_same, rfl, _, [V.int (d : Nat)], rfl, V.int (d : Nat), [], rfl, rfl, nx_of ?_⟩
  have wd2 := wd1.same s12
  have hv2 := dp_same (off_same s12) _ _ hv1
  have pt2 := pt1.same s12
  have eb2 : EB p H (upd H1 r (.tup [V.int (RR.length : Nat), V.int (d : Nat)])) := (EB.sb sb).trans (EB.ext (ExtN.of s12))
  generalize upd H1 r (.tup [V.int (RR.length : Nat), V.int (d : Nat)]) = H2 at *
  have kn2 := wd2.kn
  have rl := tb.row _ (tb.get hd).2
  -- no tables
  refine s_seq (s_forT (S := S) (ths := nots) kn2 (el_lst kn2 (eta_cons (et_d ev_non) (eta_cons (et_d (ev_int 0)) (eta_cons (et_d (ev_lst kn2 ea_nil (by decide))) (eta_cons (et_d (ev_tup kn2 ea_nil (by decide))) (eta_cons (et_dic kn2) (eta_cons (et_d (ev_str "0")) (eta_cons (et_d (ev_bl true)) (eta_cons (et_d (ev_rep (k := 8) kn2 (ev_lst kn2 (ea_cons (ev_int 0) ea_nil) (by decide)) (by decide) fun H1 s Q q => t_c q)) eta_nil)))))))) (by decide)) fun H3 s3 kn3 => ?_)
  have wd3 := wd2.same s3
  have hv3 := dp_same (off_same s3) _ _ hv2
  refine ⟨fun i σ' H' => ∃ x4 : Option V, σ' = [some (.ref p), some v, some (.int (RR.length : Nat)), some (.int (d : Nat)), x4, none] ∧ ExtN H3 H' ∧ Wd Ts S H', ⟨_, rfl, ExtN.refl _, wd3⟩, fun i σ' H' _ ⟨_, _, z, _⟩ => Kp.ext z, ?_, ?_⟩
  · rintro i z th σ' Ha hth dz ⟨x4, rfl, ea, wa⟩
    have no := nots_no th (List.mem_of_getElem? hth)
    have dza := dz.kp (Kp.ext (S := S) ea)
    have tln : Tls .none := .inr ⟨_, _, nice_none, by decide, by decide⟩
    refine g_name (s_if (b_test (t_op ?_)))
    refine hd_err wa (E := CT) (f := "position") (wd := "table") (x := .none) (by simp [hcs]) tln (fun H9 Ec Qc k9 w9 hE => mk_none w9.kn (et_var rfl (dza.kp k9)) no fun dd H' s hd => hE dd .non H' s hd .non) fun u Hb eb tb' du => ?_
    rw [shown_none] at du
    have wb := wa.ext eb tb'
    refine (ev_lst (K := K) (S := S) (ds := [.str "table", .str "None", .bool true]) wb.kn (ea_cons (ev_str "table") (ea_cons (ev_str "None") (ea_cons (ev_bl true) ea_nil))) (show 3 ≤ 100 by decide)) Hb (Same.refl _) _ fun u2 Hc sc d2 => ?_
    refine ⟨_, _, dp_same off_sub _ _ (dp_same (off_same sc) _ _ du), dp_same off_sub _ _ d2, told_sh (okS_of _) (okS_of _), told_sh (okS_of _) (okS_of _), ⟨_, rfl, ifF (by rw [told_eqv]; rfl) (s_next ⟨_, rfl, (ea.trans eb).trans (ExtN.of sc), wb.same sc⟩)⟩⟩
  rintro σ' H4 ⟨x4, rfl, e34, wd4⟩
  have hv4 := (Kp.ext (S := S) e34).dp hv3
  have kn4 := wd4.kn
  refine nx_of ?_
  have cN : ∀ (G : Hp) (τ : L2.St), τ[2]? = some (some (.int (RR.length : Nat))) → ∀ H1, Same G H1 → ∀ Q : VK, Q (.int (RR.length : Nat)) H1 → tVar 2 τ H1 Q := fun G τ e H1 s Q q => t_var e q
  have cP : ∀ (G : Hp) (τ : L2.St), τ[2]? = some (some (.int (RR.length : Nat))) → ∀ H1, Same G H1 → ∀ Q : VK, Q (.int ((RR.length + 1 : Nat) : Int)) H1 → tOp (rI0 fun i j => V.int (i + j)) (tVar 2) (tC (V.int 1)) τ H1 Q := fun G τ e H1 s Q q => t_op (t_var e (t_c (i_0 (by rw [show (RR.length : Int) + 1 = ((RR.length + 1 : Nat) : Int) by omega]) q)))
  have cM : ∀ (G : Hp) (τ : L2.St), τ[2]? = some (some (.int (RR.length : Nat))) → ∀ H1, Same G H1 → ∀ Q : VK, Q (.int ((RR.length - 1 : Nat) : Int)) H1 → tOp (rI0 fun i j => V.int (i - j)) (tVar 2) (tC (V.int 1)) τ H1 Q := fun G τ e H1 s Q q => t_op (t_var e (t_c (i_0 (by rw [show (RR.length : Int) - 1 = ((RR.length - 1 : Nat) : Int) by omega]) q)))
  have neg1 : ∀ (G : Hp) (τ : L2.St), EvD K S G τ (tUn (rU fun i => V.int (-i)) (tC (V.int 1))) (.int (-1)) := fun G τ H1 s Q q => t_un (t_c ⟨1, rfl, q _ _ (Same.refl _) (.int _)⟩)
  refine s_seq (s_set ((el_lst (ths := bads RR.length) kn4 (eta_cons (et_d ev_non) (eta_cons (et_d (ev_lst kn4 ea_nil (by decide))) (eta_cons (et_d (ev_int 0)) (eta_cons (et_d (d := .str (Txt.mul "0" RR.length)) (fun H1 s Q q => t_op (t_c (t_var rfl ⟨_, _, rfl, rfl, by decide +kernel, by omega, by omega, q _ _ (Same.refl _) (.str _)⟩))))
    (eta_cons (et_d (ev_rep (k := RR.length + 1) kn4 (ev_int 0) (by omega) (cP _ _ rfl))) (eta_cons (et_d (ev_rep (k := RR.length - 1) kn4 (ev_int 0) (by omega) (cM _ _ rfl))) (eta_cons (et_d (ev_rep (k := RR.length) kn4 (ev_var (d := nD RR.length) rfl (.int _)) (by omega) (cN _ _ rfl))) (eta_cons (et_d (ev_rep (k := RR.length) kn4 (neg1 _ _) (by omega) (cN _ _ rfl))) (eta_cons (et_d (ev_rep (k := RR.length) kn4 (ev_bl true) (by omega) (cN _ _ rfl))) eta_nil))))))))) (show 9 ≤ 100 by decide)) H4 (Same.refl _) _ fun u5 H5 s5 h5 => nx_of ?_))
  have wd5 := wd4.same s5
  have hv5 := dp_same (off_same s5) _ _ hv4
  have kn5 := wd5.kn
  have row5 : ∀ {τ : L2.St} {H1 : Hp} {Q : VK}, τ[1]? = some (some v) → τ[3]? = some (some (.int (d : Nat))) → Same H5 H1 → (∀ u, Dp K (off S H1) u (nL (RR.getD d [])) → Q u H1) → tOp (rIx K) (tVar 1) (tVar 3) τ H1 Q := fun {τ H1 Q} e1 e3 s q =>
    t_op (t_var e1 (t_var e3 (ix_d (i := d) off_sub (dp_same (off_same s) _ _ hv5) rfl (row_get tb nL hd) q)))
  refine s_seq (s_forT (S := S) (ths := bads RR.length ++ moreT RR.length (RR.getD d [])) kn5 (el_cat kn5 (el_var rfl h5) (el_lst (ths := moreT RR.length (RR.getD d [])) kn5 (eta_cons (et_d (ev_rep (k := RR.length) kn5 ev_non (by omega) (cN _ _ rfl))) (eta_cons (et_d (ev_rep (k := RR.length) kn5 (ev_tup kn5 (ea_cons (ev_int 0) ea_nil) (by decide)) (by omega) (cN _ _ rfl))) (eta_cons (et_dic kn5) (eta_cons (et_d (ev_rep (k := RR.length) kn5 (ev_str "0") (by omega) (cN _ _ rfl)))
    (eta_cons (et_d (ev_cat (ds := ((RR.getD d []).take (RR.length - 1)).map nD) (es := [.bool false]) kn5 (fun H1 s Q q => ?_) (ev_lst kn5 (ea_cons (ev_bl false) ea_nil) (by decide)) (by rw [List.length_map, List.length_take]; simp only [List.length_singleton]; omega))) eta_nil))))) (show 5 ≤ 100 by decide)) (show 9 + 5 ≤ 100000 by decide)) fun H6 s6 kn6 => ?_)
  · refine t_sl (row5 rfl rfl s fun ur dr => o_none (o_some (t_un (t_c ⟨1, rfl, ⟨-1, rfl, sl_init (kn5.same s) dr fun u H' s' d' => q u H' s' ?_⟩⟩))))
    rw [List.length_map, rl, ← List.map_take] at d'
    exact d'
  have wd6 := wd5.same s6
  have hv6 := dp_same (off_same s6) _ _ hv5
  refine ⟨fun i σ' H' => ∃ x4 : Option V, σ' = [some (.ref p), some v, some (.int (RR.length : Nat)), some (.int (d : Nat)), x4, some u5] ∧ ExtN H6 H' ∧ Wd Ts S H', ⟨_, rfl, ExtN.refl _, wd6⟩, fun i σ' H' _ ⟨_, _, z, _⟩ => Kp.ext z, ?_, ?_⟩
  · rintro i z th σ' Ha hth dz ⟨x4, rfl, ea, wa⟩
    obtain ⟨bad, few⟩ := bads_bad p1 p7 rl th (List.mem_of_getElem? hth)
    have dza := dz.kp (Kp.ext (S := S) ea)
    have hva := (Kp.ext (S := S) ea).dp hv6
    have tln : Tls (.int (d : Nat)) := .inr ⟨_, _, nice_int (by omega), by decide, by decide⟩
    have okd : okS (PyData.int (d : Nat)).shown := okS_shown _ rfl
    have right : ∀ (u : V) (Hb : Hp) (τ : L2.St) (D : Ends) (A B : TS), τ[3]? = some (some (.int (d : Nat))) → Wd Ts S Hb → Dp K (off S Hb) u (toldD "table" (.int (d : Nat))) → (∀ Hc, Same Hb Hc → B D τ Hc) →
        tLst (tCons (tC (V.str "table")) (tCons (tCB (rReprA K) (tCons (tVar 3) tNil)) (tCons (tC (V.bl true)) tNil))) τ Hb fun y H2 => rNeD K u y H2 fun x H1 => ∃ k, x = V.bl k ∧ if k = true then A D τ H1 else B D τ H1 := fun u Hb τ D A B e3 wb du k => by
      refine (ev_lst (K := K) (S := S) (ds := [.str "table", .str (PyData.int (d : Nat)).shown, .bool true]) wb.kn (ea_cons (ev_str "table") (ea_cons (fun H1 s Q q => t_cb1 (t_var e3 ⟨_, .int (d : Nat), rfl, ⟨.int _, tln⟩, q _ _ (Same.refl _) (.str _)⟩)) (ea_cons (ev_bl true) ea_nil))) (show 3 ≤ 100 by decide)) Hb (Same.refl _) _ fun u2 Hc sc d2 => ?_
      exact ⟨_, _, dp_same off_sub _ _ (dp_same (off_same sc) _ _ du), dp_same off_sub _ _ d2, told_sh (okS_of _) okd, told_sh (okS_of _) okd, ⟨_, rfl, ifF (by rw [told_eqv]; rfl) (k Hc sc)⟩⟩
    refine g_name (s_seq (s_if (b_test (t_op ?_))))
    refine hd_err wa (E := CT) (f := "position") (wd := "table") (x := .int (d : Nat)) (by simp [hcs]) tln (fun H9 Ec Qc k9 w9 hE => mk_bad (ths := thsA RR d th) (i := d) (th := th) w9.kn ?_ (by rw [thsA_len hd]; exact p7) (thsA_at hd) (by rw [thsA_len hd]; exact bad) (thsA_few tb few) (thsA_good tb hd) fun dd H' s hd' => hE dd (.int (d : Nat)) H' s hd' (.int _)) fun u Hb eb tb' du => right u Hb _ _ _ _ rfl (wa.ext eb tb') du fun Hc sc => s_next ?_
    · have hv9 := k9.dp hva
      have dz9 := dza.kp k9
      have e1 : ((RR.take d).map nL).map Th.dat = (RR.take d).map rT := by rw [List.map_map]; rfl
      have e2 : ((RR.drop (d + 1)).map nL).map Th.dat = (RR.drop (d + 1)).map rT := by rw [List.map_map]; rfl
      unfold thsA
      rw [← e1, ← e2]
      refine el_cat w9.kn (el_cat w9.kn (el_d fun H1 s Q q => ?_) (el_lst w9.kn (eta_cons (et_var rfl dz9) eta_nil) (by simp)) (by simp; omega)) (el_d fun H1 s Q q => ?_) (by simp; omega)
      · exact t_sl (t_var rfl (o_none (o_some (t_var rfl ⟨_, rfl, sl_take (w9.kn.same s) (dp_same (off_same s) _ _ hv9) (by omega) q⟩))))
      · exact t_sl (t_var rfl (o_some (t_op (t_var rfl (t_c (i_0 (v := .int ((d + 1 : Nat) : Int)) (by rw [show (d : Int) + 1 = ((d + 1 : Nat) : Int) by omega]) ⟨_, rfl, o_none (sl_drop (m := d + 1) (w9.kn.same s) (dp_same (off_same s) _ _ hv9) (by omega) q)⟩))))))
    have wc := (wa.ext eb tb').same sc
    have eac := (ea.trans eb).trans (ExtN.of sc)
    have hvc := (Kp.ext (S := S) eac).dp hv6
    have dzc := dz.kp (Kp.ext (S := S) eac)
    refine s_if (b_test (t_op ?_))
    refine hd_err wc (E := CT) (f := "position") (wd := "table") (x := .int (d : Nat)) (by simp [hcs]) tln (fun H9 Ec Qc k9 w9 hE => mk_bad (ths := thsB RR d th) (i := d) (th := th) w9.kn ?_ (by rw [thsB_len hd]; exact p7) thsB_at (by rw [thsB_len hd]; exact bad) (thsB_few tb few) (thsB_good tb hd) fun dd H' s hd' => hE dd (.int (d : Nat)) H' s hd' (.int _)) fun u Hd ed td du => right u Hd _ _ _ _ rfl (wc.ext ed td) du fun He se => s_next ⟨_, rfl, (eac.trans ed).trans (ExtN.of se), (wc.ext ed td).same se⟩
    have hv9 := k9.dp hvc
    have dz9 := dzc.kp k9
    have e1 : (List.replicate d (nL (RR.getD 0 []))).map Th.dat = List.replicate d (rT (RR.getD 0 [])) := by rw [List.map_replicate]
    have e2 : (List.replicate (RR.length - d - 1) PyData.none).map Th.dat = List.replicate (RR.length - d - 1) (.dat .none) := by rw [List.map_replicate]
    unfold thsB
    rw [← e1, ← e2]
    refine el_cat w9.kn (el_cat w9.kn (el_d (ev_rep (k := d) w9.kn (fun H1 s Q q => ?_) (by omega) fun H1 s Q q => t_var rfl q)) (el_lst w9.kn (eta_cons (et_var rfl dz9) eta_nil) (by simp)) (by simp; omega)) (el_d (ev_rep (k := RR.length - d - 1) w9.kn ev_non (by omega) fun H1 s Q q => ?_)) (by simp; omega)
    · exact t_op (t_var rfl (t_c (ix_d (i := 0) off_sub (dp_same (off_same s) _ _ hv9) rfl (row_get tb nL (by omega)) fun u du => q _ _ (Same.refl _) du)))
    · exact t_op (t_op (t_var rfl (t_var rfl (i_0 rfl (t_c (i_0 (v := .int ((RR.length - d - 1 : Nat) : Int)) (by rw [show (RR.length : Int) - (d : Int) - 1 = ((RR.length - d - 1 : Nat) : Int) by omega]) q))))))
  · rintro σ' Ha ⟨x4, rfl, ea, wa⟩
    refine nx_of (s_ret (t_op ?_))
    refine hd_let wa (fun H9 Ec Qc k9 w9 hQ => mk_good false (List.replicate 7 (false, List.replicate 7 0)) (by rw [List.map_replicate]; exact seven_tb) w9.kn (ev_rep (k := 7) (d := .list (List.replicate 7 (.int 0))) w9.kn (ev_rep (k := 7) w9.kn (ev_int 0) (by decide) fun H1 s Q q => t_c q) (by decide) fun H1 s Q q => t_c q) hQ) fun u Hb eb tb' du => ?_
    have wb := wa.ext eb tb'
    refine (ev_lst (K := K) (S := S) (ds := [.str "let"]) wb.kn (ea_cons (ev_str "let") ea_nil) (show 1 ≤ 100 by decide)) Hb (Same.refl _) _ fun u2 Hc sc d2 => ?_
    refine ⟨_, _, dp_same off_sub _ _ (dp_same (off_same sc) _ _ du), dp_same off_sub _ _ d2, let_sh, let_sh, ?_⟩
    rw [let_eqv]
    have e2c : ExtN H2 Hc := ((ExtN.of s3).trans e34).trans (((ExtN.of s5).trans (ExtN.of s6)).trans (((ea.trans eb)).trans (ExtN.of sc)))
    exact q _ (eb2.trans (EB.ext e2c)) (pt2.ext e2c) (wb.same sc).tab
end
end K31

set_option maxRecDepth 100000
set_option maxHeartbeats 4000000
namespace K31
open PySem PySem.Spec PyProof.Rows L2 Kh
/-- values that are no melts, or may be -/
def somes (n : Nat) : List PyData := [.none, .int (-1), nD n, .bool true, .str "0", .tuple [.int 0], .tuple [.int 0, .int 0, .int 0], .list [.int 0, .int 0], .tuple [], .tuple [.int 0, nD n], .tuple [.tuple [.int 0, .int 0], .none], .tuple [.int 0, .bool false]]
/-- what a part of a thing must be -/
structure Prt (k l : Nat) (d : PyData) : Prop where
  nc : Nice (k * 300) l d
  pl : Pl d = true
  dp : mdp d ≤ l
  sz : msz d ≤ k
  lf : (leafs d).length ≤ k
theorem prt_pair {k l k2 l2 : Nat} {a b : PyData} (h : Prt k l a) (g : Prt k2 l2 b) (hk : 1 ≤ k) (hk2 : 1 ≤ k2) : Prt (1 + k + k2) (1 + max l l2) (.tuple [a, b]) where
  nc := (nice_tup (niceA_cons (h.nc.mono (Nat.le_refl _) (Nat.le_max_left l l2)) (niceA_cons (g.nc.mono (Nat.le_refl _) (Nat.le_max_right l l2)) (niceA_nil.mono (Nat.le_refl _) (Nat.zero_le _))))).mono (by omega) (by omega)
  pl := by rw [Pl, PlAll, PlAll, PlAll, h.pl, g.pl]; rfl
  dp := by rw [mdp_pair]; have := h.dp; have := g.dp; omega
  sz := by rw [msz_pair]; have := h.sz; have := g.sz; omega
  lf := by rw [leafs_pair, List.length_append]; have := h.lf; have := g.lf; omega
theorem prt_list {k l k2 l2 : Nat} {a b : PyData} (h : Prt k l a) (g : Prt k2 l2 b) (hk : 1 ≤ k) (hk2 : 1 ≤ k2) : Prt (1 + k + k2) (1 + max l l2) (.list [a, b]) where
  nc := (nice_list (niceA_cons (h.nc.mono (Nat.le_refl _) (Nat.le_max_left l l2)) (niceA_cons (g.nc.mono (Nat.le_refl _) (Nat.le_max_right l l2)) (niceA_nil.mono (Nat.le_refl _) (Nat.zero_le _))))).mono (by omega) (by omega)
  pl := by rw [Pl, PlAll, PlAll, PlAll, h.pl, g.pl]; rfl
  dp := by rw [mdp_one rfl]; omega
  sz := by rw [msz_one rfl]; omega
  lf := by rw [leafs_one rfl]; show 1 ≤ _; omega
theorem prt_one {d : PyData} (h1 : Nice 300 0 d) (h2 : Pl d = true) (h3 : isPair d = false) : Prt 1 0 d where
  nc := h1
  pl := h2
  dp := by rw [mdp_one h3]; exact Nat.le_refl _
  sz := by rw [msz_one h3]; exact Nat.le_refl _
  lf := by rw [leafs_one h3]; exact Nat.le_refl _
theorem prt_nat {n : Nat} (h : n < 256) : Prt 1 0 (nD n) := prt_one ((nice_int h).mono (by decide) (Nat.le_refl _)) rfl rfl
theorem Prt.mono {k l k2 l2 : Nat} {d : PyData} (h : Prt k l d) (hk : k ≤ k2) (hl : l ≤ l2) : Prt k2 l2 d := ⟨h.nc.mono (by omega) hl, h.pl, Nat.le_trans h.dp hl, Nat.le_trans h.sz hk, Nat.le_trans h.lf hk⟩
theorem somes_prt {n : Nat} (h : n ≤ 7) : ∀ d ∈ somes n, Prt 7 3 d := by
  intro d hd
  simp only [somes, List.mem_cons, List.not_mem_nil, or_false] at hd
  have z : Prt 1 0 (.int 0) := prt_nat (n := 0) (by decide)
  have nn : Prt 1 0 .none := prt_one (nice_none.mono (by decide) (Nat.le_refl _)) rfl rfl
  rcases hd with rfl | rfl | rfl | rfl | rfl | rfl | rfl | rfl | rfl | rfl | rfl | rfl
  · exact nn.mono (by decide) (by decide)
  · exact (prt_one ⟨by decide +kernel, by decide +kernel, by decide +kernel, by decide +kernel, by decide +kernel, by decide +kernel⟩ rfl rfl).mono (by decide) (by decide)
  · exact (prt_nat (by omega)).mono (by decide) (by decide)
  · exact (prt_one ((nice_bool _).mono (by decide) (Nat.le_refl _)) rfl rfl).mono (by decide) (by decide)
  · exact (prt_one ((nice_okS (n := 10) (okS_of _) (by decide +kernel)).mono (by decide) (Nat.le_refl _)) (by decide +kernel) rfl).mono (by decide) (by decide)
  · exact ⟨⟨by decide +kernel, by decide +kernel, by decide +kernel, by decide +kernel, by decide +kernel, by decide +kernel⟩, rfl, by rw [mdp_one rfl]; omega, by rw [msz_one rfl]; omega, by rw [leafs_one rfl]; show 1 ≤ 7; decide⟩
  · exact ⟨⟨by decide +kernel, by decide +kernel, by decide +kernel, by decide +kernel, by decide +kernel, by decide +kernel⟩, rfl, by rw [mdp_one rfl]; omega, by rw [msz_one rfl]; omega, by rw [leafs_one rfl]; show 1 ≤ 7; decide⟩
  · exact (prt_list z z (by decide) (by decide)).mono (by decide) (by decide)
  · exact ⟨⟨by decide +kernel, by decide +kernel, by decide +kernel, by decide +kernel, by decide +kernel, by decide +kernel⟩, rfl, by rw [mdp_one rfl]; omega, by rw [msz_one rfl]; omega, by rw [leafs_one rfl]; show 1 ≤ 7; decide⟩
  · exact (prt_pair z (prt_nat (n := n) (by omega)) (by decide) (by decide)).mono (by decide) (by decide)
  · exact (prt_pair (prt_pair z z (by decide) (by decide)) nn (by decide) (by decide)).mono (by decide) (by decide)
  · exact (prt_pair z (prt_one ((nice_bool false).mono (by decide) (Nat.le_refl _)) rfl rfl) (by decide) (by decide)).mono (by decide) (by decide)
theorem melt_prt {m : Nat} (hm : m ≤ 7) : ∀ d, meltA m d = true → Prt (msz d) (mdp d) d := fun d => by
  refine pair_ind (Pr := fun d => meltA m d = true → Prt (msz d) (mdp d) d) (fun d h ok => ?_) (fun a b ha hb ok => ?_) (msz d) d (Nat.le_refl _)
  · obtain ⟨e, lt⟩ := meltA_one h ok
    rw [msz_one h, mdp_one h]
    generalize hn : toN d = n at e lt
    rw [e]
    exact prt_nat (by omega)
  · obtain ⟨oka, okb⟩ := meltA_pair.mp ok
    rw [msz_pair, mdp_pair]
    exact prt_pair (ha oka) (hb okb) (msz_pos a) (msz_pos b)
/-- any value that is asked -/
structure Ask (n : Nat) (t : PyData) : Prop where
  tls : Tls t
  ok : okS t.shown
  dp : mdp t < 20
  sz : msz t ≤ 10000
  eq : meltOk n t = meltA n t
theorem Prt.ask {n k l : Nat} {d : PyData} (h : Prt k l d) (hk : k ≤ 40) (hl : l < 20) : Ask n d where
  tls := .inr ⟨_, _, h.nc, by omega, by omega⟩
  ok := okS_shown d h.pl
  dp := by have := h.dp; omega
  sz := by have := h.sz; omega
  eq := by
    unfold meltOk
    rw [decide_eq_true (by have := h.lf; omega), Bool.and_true]
def things (d o : PyData) : List PyData := [d, o, .tuple [d, o], .tuple [o, d], .tuple [d, .int 0], .list [d, .int 0]]
theorem things_ask {n : Nat} {d o : PyData} (h : Prt 25 12 d) (g : Prt 7 3 o) : ∀ t ∈ things d o, Ask n t := by
  intro t ht
  simp only [things, List.mem_cons, List.not_mem_nil, or_false] at ht
  have z : Prt 1 0 (.int 0) := prt_nat (n := 0) (by decide)
  rcases ht with rfl | rfl | rfl | rfl | rfl | rfl
  · exact h.ask (by decide) (by decide)
  · exact g.ask (by decide) (by decide)
  · exact (prt_pair h g (by decide) (by decide)).ask (by decide) (by decide)
  · exact (prt_pair g h (by decide) (by decide)).ask (by decide) (by decide)
  · exact (prt_pair h z (by decide) (by decide)).ask (by decide) (by decide)
  · exact (prt_list h z (by decide) (by decide)).ask (by decide) (by decide)
end K31

set_option maxRecDepth 100000
set_option maxHeartbeats 8000000
namespace K31
open PySem PySem.Spec PyProof.Rows L2 Kh
open LamX (ExtN Tabs TabS TabB CodeO GivesTo LamS lamEnv lamCx)
theorem bools_eq (b : Bool) : PyData.eqv (.list [.bool b, .bool b]) (.list [.bool b, .bool b]) = true := by cases b <;> decide +kernel
theorem bools_sh (b : Bool) : SeqAt.shaped (.list [.bool b, .bool b]) = true := by cases b <;> decide +kernel
section
variable {P : Program} {w : World} {K : PySem.W.Frag} {mg : Str → Option Value} {base : Heap} {a : Nat → Addr} {fd : Nat → FuncData} {C : Addr} {tk : Nat → Tok} {CS CT CV CM : Addr} {Ts : List (Addr × Str)}
abbrev Kw2 (K : PySem.W.Frag) (fd : FuncData) (p q : Str) : Prop := KBn K fd [p, q] 0 [q, p] (fun us ws => us ++ ws.reverse) (fun vs zs => vs ++ zs.reverse)
def spMelR (K : PySem.W.Frag) (C : Addr) (Ts : List (Addr × Str)) : Sp := fun vs H Q _ => ∃ (S : Addr → Prop) (p x : Addr) (R : List (List Nat)) (v : V), vs = [.ref p, .ref x, v] ∧ Wd Ts S H ∧ S p ∧ PotAt H p ∧ TabAt K C (off S H) R x ∧ Tb R ∧ Dp K (off S H) v (nLL R) ∧ ∀ H', EB p H H' → PotAt H' p → Tabs Ts H' → Q (.bl true) H'
theorem ok__law_melts_right (T : Txt K mg a fd C tk) (U : TxC K mg a C) (R : TxR K mg a fd CS CT CV CM) (L : Lm base mg Ts (fd 29) "_law_melts_right") (kw_result : Kw2 K (fd 15) "table" "melt") (kw_is_melt : Kw2 K (fd 13) "table" "value") : FnG P w K mg base 40 (a 29) (fd 29) ["_law_pot_here", "_law_table_here", "_law_rows"] (spMelR K C Ts) := by
  obtain ⟨c, Pt, hcode, TB, hmT, hu⟩ := L
  have G__law_draw := ok__law_draw (P := P) (w := w) (base := base) T
  have G__law_pick := ok__law_pick (P := P) (w := w) (base := base) T
  have G__law_grouped := ok__law_grouped (P := P) (w := w) (base := base) T
  have G_is_melt := ok_is_melt (P := P) (w := w) (base := base) T U
  have G_result := ok_result (P := P) (w := w) (base := base) T U
  have G_resultX := ok_resultX (P := P) (w := w) (base := base) T U R
  have G__law_result := ok__law_result (P := P) (w := w) (base := base) T 20
  have G__law_is_melt := ok__law_is_melt (P := P) (w := w) (base := base) T 20
  refine fun_okC T.F__law_melts_right sc__law_melts_right (fun vs H Q E h => by obtain ⟨_, _, _, _, _, rfl, _⟩ := h; rfl) (fun A outer s H vs Q E hg hr h => ?_)
  obtain ⟨S, p, x, RR, v, rfl, wd, hS, pt, ht, tb, hv, q⟩ := h
  refine ⟨_, (pss_cons (ps_set (i := 3) sc__law_melts_right.nd rfl (Or.inr rfl) (pe_callB (k_len (K := K)) (by rfl) T.z_len (by decide +kernel) (pa_cons (pv 2) pa_nil)))
      (pss_cons (ps_for PassesOwn.never rfl (pi_range1 (by rfl) T.z_range (pa_cons pe_int pa_nil)) (pg_name (i := 4) sc__law_melts_right.nd rfl (Or.inl rfl))
        (pss_cons (ps_setLc (i := 5) (own := [("_law_more", 11)]) (g := gName 11) (tt := tYes) rfl sc__law_melts_right.nd rfl rfl (sw_true rfl rfl rfl (by decide +kernel)) (pi_range1 (by rfl) T.z_range (pa_cons (pe_op op_add pe_int (pe_call G__law_draw (hr.mono (by omega)) (by rfl) T.m__law_draw T.F__law_draw.kp T.b__law_draw .nil pass0 (pa_cons (pv 0) (pa_cons (pe_call G__law_pick (hr.mono (by omega)) (by rfl) T.m__law_pick T.F__law_pick.kp T.b__law_pick .nil pass0 (pa_cons (pv 0) (pa_cons (pe_lst (pa_cons pe_int (pa_cons pe_int (pa_cons pe_int pa_nil)))) pa_nil))) pa_nil)))) pa_nil)) (blkOk_by (own := [("_law_more", 11)]) (N := _law_melts_right_N) (sc := defScope _law_melts_right_s) (by decide +kernel)) (fun _ _ _ _ _ => (pg_name (i := 11) sc__law_melts_right.nd rfl (Or.inl rfl))) (fun _ _ _ _ _ => pts_nil) (fun _ _ _ _ _ => (pe_call G__law_draw (hr.mono (by omega)) (by rfl) T.m__law_draw T.F__law_draw.kp T.b__law_draw .nil pass0 (pa_cons (pv 0) (pa_cons (pv 3) pa_nil)))))
        (pss_cons (ps_set (i := 6) sc__law_melts_right.nd rfl (Or.inl rfl) (pe_call G__law_grouped (hr.mono (by omega)) (by rfl) T.m__law_grouped T.F__law_grouped.kp T.b__law_grouped .nil pass0 (pa_cons (pv 0) (pa_cons (pv 5) pa_nil))))
        (pss_cons (ps_if (PW.pt (pw_or (pt_cmpR op_ne (pe_call G_result (hr.mono (by omega)) (by rfl) T.m_result T.F_result.kp T.b_result .nil pass0 (pa_cons (pv 1) (pa_cons (pv 6) pa_nil))) (pe_call G__law_result (hr.mono (by omega)) (by rfl) T.m__law_result T.F__law_result.kp T.b__law_result .nil pass0 (pa_cons (pv 2) (pa_cons (pv 6) pa_nil))) (nomark _)) (pw_or1 (pt_cmpR op_ne (pe_kwR G_result (hr.mono (by omega)) (by rfl) T.m_result T.F_result.kp kw_result (pk_cons (pv 6) (pk_cons (pv 1) pk_nil))) (pe_call G__law_result (hr.mono (by omega)) (by rfl) T.m__law_result T.F__law_result.kp T.b__law_result .nil pass0 (pa_cons (pv 2) (pa_cons (pv 6) pa_nil))) (nomark _)))))
          (pss_one (ps_ret pe_bl)) pss_nil)
        (pss_cons (ps_set (i := 7) sc__law_melts_right.nd rfl (Or.inl rfl) (pe_lst (pa_cons pe_non (pa_cons (pe_un un_neg pe_int) (pa_cons (pv 3) (pa_cons pe_bl (pa_cons pe_str (pa_cons (pe_tup (pa_cons pe_int pa_nil)) (pa_cons (pe_tup (pa_cons pe_int (pa_cons pe_int (pa_cons pe_int pa_nil)))) (pa_cons (pe_lst (pa_cons pe_int (pa_cons pe_int pa_nil))) (pa_cons (pe_tup pa_nil) (pa_cons (pe_tup (pa_cons pe_int (pa_cons (pv 3) pa_nil))) (pa_cons (pe_tup (pa_cons (pe_tup (pa_cons pe_int (pa_cons pe_int pa_nil))) (pa_cons pe_non pa_nil))) (pa_cons (pe_tup (pa_cons pe_int (pa_cons pe_bl pa_nil))) pa_nil))))))))))))))
        (pss_cons (ps_set (i := 8) sc__law_melts_right.nd rfl (Or.inl rfl) (pe_call G__law_pick (hr.mono (by omega)) (by rfl) T.m__law_pick T.F__law_pick.kp T.b__law_pick .nil pass0 (pa_cons (pv 0) (pa_cons (pv 7) pa_nil))))
        (pss_one (ps_for PassesOwn.never rfl (k_pi (K := K) (pe_lst (pa_cons (pv 6) (pa_cons (pv 8) (pa_cons (pe_tup (pa_cons (pv 6) (pa_cons (pv 8) pa_nil))) (pa_cons (pe_tup (pa_cons (pv 8) (pa_cons (pv 6) pa_nil))) (pa_cons (pe_tup (pa_cons (pv 6) (pa_cons pe_int pa_nil))) (pa_cons (pe_lst (pa_cons (pv 6) (pa_cons pe_int pa_nil))) pa_nil)))))))) (pg_name (i := 9) sc__law_melts_right.nd rfl (Or.inr rfl))
          (pss_cons (ps_set (i := 10) sc__law_melts_right.nd rfl (Or.inl rfl) (pe_call G__law_is_melt (hr.mono (by omega)) (by rfl) T.m__law_is_melt T.F__law_is_melt.kp T.b__law_is_melt .nil pass0 (pa_cons (pv 2) (pa_cons (pv 9) pa_nil))))
          (pss_cons (ps_if (pt_cmpR (k_neD (K := K) hr.units) (pe_lst (pa_cons (pe_call G_is_melt (hr.mono (by omega)) (by rfl) T.m_is_melt T.F_is_melt.kp T.b_is_melt .nil pass0 (pa_cons (pv 1) (pa_cons (pv 9) pa_nil))) (pa_cons (pe_kwR G_is_melt (hr.mono (by omega)) (by rfl) T.m_is_melt T.F_is_melt.kp kw_is_melt (pk_cons (pv 9) (pk_cons (pv 1) pk_nil))) pa_nil))) (pe_lst (pa_cons (pv 10) (pa_cons (pv 10) pa_nil))) (nomark _))
            (pss_one (ps_ret pe_bl)) pss_nil)
          (pss_one (ps_if (pt_cmpR (k_neD (K := K) hr.units) (pe_heard (k := 29) T R hg TB hcode hmT hu (hr.mono (by omega)) (LamX.lamS_by (sc := defScope _law_melts_right_s) (by decide +kernel)) (fun _ _ _ _ _ _ _ hr2 => (pe_call G_resultX (hr2.mono (by omega)) (by rfl) T.m_result T.F_result.kp T.b_result .nil (passes_call (takes_of rfl rfl rfl rfl) fun _ _ _ _ h => h) (pa_cons (pv 1) (pa_cons (pv 9) pa_nil))))) (pe_ifExp (pt_val (pv 10)) (pe_lst (pa_cons pe_str pa_nil)) (pe_lst (pa_cons pe_str (pa_cons (pe_callB (k_reprA (K := K) hg hr.units) (by rfl) T.z_repr (by decide +kernel) (pa_cons (pv 9) pa_nil)) (pa_cons pe_bl pa_nil))))) (nomark _))
            (pss_one (ps_ret pe_bl)) pss_nil))))))))))))
      (pss_one (ps_ret pe_bl)))), ?_⟩
  have p1 := tb.pos
  have p7 := tb.few
  refine s_seq (s_set (t_cb1 (t_var rfl (len_d off_sub hv rfl (nx_of ?_)))))
  rw [List.length_map]
  refine s_seq ?_
  show iRng1 (tCons _ tNil) _ _ _
  refine r_rng1 (a_cons (t_c (a_nil ⟨3, rfl, by decide, by decide, ?_⟩)))
  refine for_it walk_range (fun i σ' H' => ∃ (x4 x5 x6 x7 x8 x9 x10 : Option V), σ' = [some (.ref p), some (.ref x), some v, some (.int (RR.length : Nat)), x4, x5, x6, x7, x8, x9, x10, none] ∧ EB p H H' ∧ PotAt H' p ∧ Wd Ts S H') ⟨_, _, _, _, _, _, _, rfl, EB.ext (ExtN.refl _), pt, wd⟩ (fun _ _ _ _ _ => trivial) ?_ ?_
  rotate_left
  · rintro σ' Ha ⟨x4, x5, x6, x7, x8, x9, x10, rfl, ea, pa, wa⟩
    exact nx_of (s_ret (t_c (q Ha ea pa wa.tab)))
  rintro i x0 σ' Ha Hb hi ⟨x4, x5, x6, x7, x8, x9, x10, rfl, ea, pa, wa⟩ ⟨rfl, rfl⟩
  have hvb := (ea.kp hS).dp hv
  refine g_name (s_seq (s_set (lc_potR nD (K := K) (Pn := fun k => 1 ≤ k ∧ k ≤ 11) (Xp := fun _ _ _ => True) (Good := fun m => m < RR.length) hS wa.kn (fun q' h' => ?_) (fun n h => by omega) (fun _ => rfl) (fun D H1 x hD sb => trivial) (fun y H1 S' sb pt1 kn1 hS' _ Q' q' => ?_) fun D H1 n ms sb1 pt1 hn hl good dM => nx_of ?_)))
  · refine a_cons (t_op (t_c (t_call2 (t_var rfl (t_call2 (t_var rfl (t_lst (a_cons (t_c (a_cons (t_c (a_cons (t_c (a_nil ⟨le3, fun l hl => ?_⟩))))))))))))))
    have lp : l ≠ p := fun e => by have := pa.some; rw [← e] at this; exact this hl
    have sl := same_new (o := HO.lst [V.int 2, V.int 4, V.int 11]) hl
    refine ⟨p, l, [V.int 2, V.int 4, V.int 11], rfl, pa.same sl, fun H' sb => sqL (sb _ _ lp upd_same), by decide, by decide, fun d y H2 hy sb pt2 => ?_⟩
    obtain ⟨m, rfl, m1, m2⟩ : ∃ m : Nat, y = .int (m : Nat) ∧ 1 ≤ m ∧ m ≤ 11 := by
      match d, hy with
      | 0, hy => simp at hy; exact ⟨2, hy.symm, by decide, by decide⟩
      | 1, hy => simp at hy; exact ⟨4, hy.symm, by decide, by decide⟩
      | 2, hy => simp at hy; exact ⟨11, hy.symm, by decide, by decide⟩
    refine ⟨p, m, rfl, pt2, by omega, by omega, fun d2 H3 hd2 sb2 pt3 => i_0 (v := .int ((1 + d2 : Nat) : Int)) (by rw [show (1 : Int) + (d2 : Int) = ((1 + d2 : Nat) : Int) by omega]) (a_nil (h' H3 (1 + d2) (sb_trans (sbut sl) (sb_trans sb sb2)) pt3 ⟨by omega, by omega⟩))⟩
  · exact t_call2 (t_var rfl (t_var rfl ⟨p, RR.length, rfl, pt1, by omega, by omega, fun d H2 hd sb2 pt2 => q' _ H2 d sb2 pt2 hd (.int _)⟩))
  have ea1 := ea.trans (EB.sb sb1)
  have wa1 := Wd.pot wa pa sb1 pt1
  have hv1 := (ea1.kp hS).dp hv
  have ht1 := ht.kp (ea1.kp hS)
  refine s_seq (s_set (t_call2 (t_var rfl (t_var rfl ⟨S, p, .ref D, ms, rfl, wa1.kn, hS, pt1, dM, by omega, by omega, fun u H2 d sb2 pt2 gr lf du => nx_of ?_⟩))))
  have ea2 := ea1.trans (EB.sb sb2)
  have wa2 := Wd.pot wa1 pt1 sb2 pt2
  have hv2 := (ea2.kp hS).dp hv
  have ht2 := ht.kp (ea2.kp hS)
  have ln : (leafs d).length ≤ 11 := by rw [lf, List.length_map]; omega
  have okA : meltA RR.length d = true := by
    unfold meltA
    rw [lf, List.all_eq_true]
    intro e he
    obtain ⟨m, hm, rfl⟩ := List.mem_map.mp he
    exact below_ok (good m hm)
  have okM : meltOk RR.length d = true := by
    unfold meltOk
    rw [okA, decide_eq_true (by omega)]; rfl
  have mdp11 : mdp d ≤ 11 := Nat.le_trans gr.dp ln
  have msz21 : msz d ≤ 21 := by have := gr.sz; omega
  have pd : Prt 25 12 d := (melt_prt p7 d okA).mono (by omega) (by omega)
  -- its result
  refine s_seq (s_if (b_or (b_test (t_op (t_call2 (t_var rfl (t_var rfl ⟨S, RR, x, d, u, rfl, wa2.kn, ht2, tb, du, okM, by omega, by omega, fun H3 s3 => ?_⟩)))))))
  have du3 := dp_same (off_same s3) _ _ du
  have hv3 := dp_same (off_same s3) _ _ hv2
  refine t_call2 (t_var rfl (t_var rfl ⟨S, (RR, d), wa2.kn.same s3, .cons hv3 (.cons du3 .nil), ⟨tb, show mdp d < 20 by omega, okA⟩, fun z H4 s4 dz => ?_⟩))
  replace dz : Dp K (off S H4) z (nD (res RR d)) := dz
  cases dz
  refine ⟨rfl, _, rfl, ifF (by simp) ?_⟩
  have s24 := s3.trans s4
  have du4 := dp_same (off_same s4) _ _ du3
  have hv4 := dp_same (off_same s4) _ _ hv3
  have ht4 := ht2.same (off_same s24)
  have kn4 := wa2.kn.same s24
  refine b_test (t_op (a_cons (t_var rfl (a_cons (t_var rfl (a_nil ⟨rfl, S, RR, x, d, u, rfl, kn4, ht4, tb, du4, okM, by omega, by omega, fun H5 s5 => ?_⟩))))))
  refine t_call2 (t_var rfl (t_var rfl ⟨S, (RR, d), kn4.same s5, .cons (dp_same (off_same s5) _ _ hv4) (.cons (dp_same (off_same s5) _ _ du4) .nil), ⟨tb, show mdp d < 20 by omega, okA⟩, fun z H6 s6 dz => ?_⟩))
  replace dz : Dp K (off S H6) z (nD (res RR d)) := dz
  cases dz
  refine ⟨rfl, _, rfl, ifF (by simp) (s_next ?_)⟩
  have s26 := s24.trans (s5.trans s6)
  have wa6 := wa2.same s26
  have pt6 := pt2.same s26
  have du6 := dp_same (off_same (s5.trans s6)) _ _ du4
  -- what may be none
  refine s_seq (s_set ((ev_lst (K := K) (S := S) (ds := somes RR.length) wa6.kn (ea_cons ev_non (ea_cons (fun H1 s Q q => t_un (t_c ⟨1, rfl, q _ _ (Same.refl _) (.int _)⟩)) (ea_cons (ev_var (d := nD RR.length) rfl (.int _)) (ea_cons (ev_bl true) (ea_cons (ev_str "0") (ea_cons (ev_tup wa6.kn (ea_cons (ev_int 0) ea_nil) (by decide)) (ea_cons (ev_tup wa6.kn (ea_cons (ev_int 0) (ea_cons (ev_int 0) (ea_cons (ev_int 0) ea_nil))) (by decide))
    (ea_cons (ev_lst wa6.kn (ea_cons (ev_int 0) (ea_cons (ev_int 0) ea_nil)) (by decide)) (ea_cons (ev_tup wa6.kn ea_nil (by decide)) (ea_cons (ev_tup (ds := [.int 0, nD RR.length]) wa6.kn (ea_cons (ev_int 0) (ea_cons (ev_var rfl (.int _)) ea_nil)) (show 2 ≤ 100 by decide)) (ea_cons (ev_tup wa6.kn (ea_cons (ev_tup wa6.kn (ea_cons (ev_int 0) (ea_cons (ev_int 0) ea_nil)) (by decide)) (ea_cons ev_non ea_nil)) (by decide)) (ea_cons (ev_tup wa6.kn (ea_cons (ev_int 0) (ea_cons (ev_bl false) ea_nil)) (by decide)) ea_nil)))))))))))) (show 12 ≤ 100 by decide)) H6 (Same.refl _) _ fun u7 H7 s7 h7 => nx_of ?_))
  have wa7 := wa6.same s7
  have pt7 := pt6.same s7
  obtain ⟨l7, xs7, rfl, hs7, ha7⟩ := list_at h7
  have lx7 := dpa_len ha7
  replace lx7 : xs7.length = 12 := lx7
  refine s_seq (s_set (t_call2 (t_var rfl (t_var rfl ⟨p, l7, xs7, rfl, pt7, fun H' sb => (off_keep hS sb).seq hs7, by omega, by omega, fun k y H8 hy sb8 pt8 => nx_of ?_⟩))))
  obtain ⟨o, oj, dy⟩ := dpa_at ha7 hy
  have po := somes_prt p7 o (List.mem_of_getElem? oj)
  have dy8 := dp_same (off_bt hS sb8) _ _ dy
  have wa8 := Wd.pot wa7 pt7 sb8 pt8
  have ea8 := ea2.trans ((EB.ext (ExtN.of (s26.trans s7))).trans (EB.sb sb8))
  have hv8 := (ea8.kp hS).dp hv
  have ht8 := ht.kp (ea8.kp hS)
  have du8 := dp_same (off_bt hS sb8) _ _ (dp_same (off_same s7) _ _ du6)
  have kn8 := wa8.kn
  refine s_forK (S := S) (ds := things d o) kn8 (fun Q q => (ev_lst (K := K) (S := S) (ds := things d o) kn8 (ea_cons (ev_var rfl du8) (ea_cons (ev_var rfl dy8) (ea_cons (ev_tup (ds := [d, o]) kn8 (ea_cons (ev_var rfl du8) (ea_cons (ev_var rfl dy8) ea_nil)) (show 2 ≤ 100 by decide)) (ea_cons (ev_tup (ds := [o, d]) kn8 (ea_cons (ev_var rfl dy8) (ea_cons (ev_var rfl du8) ea_nil)) (show 2 ≤ 100 by decide))
    (ea_cons (ev_tup (ds := [d, .int 0]) kn8 (ea_cons (ev_var rfl du8) (ea_cons (ev_int 0) ea_nil)) (show 2 ≤ 100 by decide)) (ea_cons (ev_lst (ds := [d, .int 0]) kn8 (ea_cons (ev_var rfl du8) (ea_cons (ev_int 0) ea_nil)) (show 2 ≤ 100 by decide)) ea_nil)))))) (show 6 ≤ 100 by decide)) H8 (Same.refl _) Q fun u H' s d => q u H' s d) fun us Hn sn knn hus lus => ?_
  have wan := wa8.same sn
  have ptn := pt8.same sn
  have hvn := dp_same (off_same sn) _ _ hv8
  have htn := ht8.same (off_same sn)
  refine ⟨fun i σ' H' => ∃ x9 x10 : Option V, σ' = [some (.ref p), some (.ref x), some v, some (.int (RR.length : Nat)), _, some (.ref D), some u, some (.ref l7), some y, x9, x10, none] ∧ ExtN Hn H' ∧ Wd Ts S H', ⟨_, _, rfl, ExtN.refl _, wan⟩, fun i σ' H' _ ⟨_, _, _, z, _⟩ => Kp.ext z, ?_, ?_⟩
  rotate_left
  · rintro σ' Hx ⟨x9', x10', rfl, ex, wx⟩
    exact ⟨_, _, _, _, _, _, _, rfl, ea8.trans ((EB.ext (ExtN.of sn)).trans (EB.ext ex)), ptn.ext ex, wx⟩
  rintro j z t σ' Hx hj dz ⟨x9', x10', rfl, ex, wx⟩
  have ask : Ask RR.length t := things_ask pd po t (List.mem_of_getElem? hj)
  have kx : Kp S Hn Hx := Kp.ext ex
  have dzx := kx.dp dz
  have hvx := kx.dp hvn
  have htx := htn.kp kx
  have knx := wx.kn
  refine g_name (s_seq (s_set (t_call2 (t_var rfl (t_var rfl ⟨S, (RR, t), knx, .cons hvx (.cons dzx .nil), ⟨tb, ask.dp⟩, fun b Hy sy db => nx_of ?_⟩)))))
  replace db : Dp K (off S Hy) b (.bool (meltA RR.length t)) := db
  cases db
  have dzy := dp_same (off_same sy) _ _ dzx
  have hty := htx.same (off_same sy)
  have kny := knx.same sy
  refine s_seq (s_if (b_test (t_op (t_lst (a_cons (t_call2 (t_var rfl (t_var rfl ⟨S, RR, x, t, z, rfl, kny, hty, tb, dzy, ask.sz, fun H1 s1 => ?_⟩))))))))
  refine a_cons (a_cons (t_var rfl (a_cons (t_var rfl (a_nil ⟨rfl, S, RR, x, t, z, rfl, kny.same s1, hty.same (off_same s1), tb, dp_same (off_same s1) _ _ dzy, ask.sz, fun H2' s2 => a_nil ⟨le2, fun pp hpp => ?_⟩⟩)))))
  have s3' := same_new (o := HO.lst [V.bl (meltOk RR.length t), V.bl (meltOk RR.length t)]) hpp
  have d3 := dp_newL (K := K) (ds := [.bool (meltOk RR.length t), .bool (meltOk RR.length t)]) (kny.same (s1.trans s2)) hpp (.cons (.bl _) (.cons (.bl _) .nil))
  refine t_lst (a_cons (t_var rfl (a_cons (t_var rfl (a_nil ⟨le2, fun pq hpq => ?_⟩)))))
  have d4 := dp_newL (K := K) (ds := [.bool (meltA RR.length t), .bool (meltA RR.length t)]) (kny.same ((s1.trans s2).trans s3')) hpq (.cons (.bl _) (.cons (.bl _) .nil))
  have s4' := same_new (o := HO.lst [V.bl (meltA RR.length t), V.bl (meltA RR.length t)]) hpq
  refine ⟨_, _, dp_same off_sub _ _ (dp_same (off_same s4') _ _ d3), dp_same off_sub _ _ d4, bools_sh _, bools_sh _, ⟨_, rfl, ifF (by rw [ask.eq, bools_eq]; rfl) (s_next ?_)⟩⟩
  have sxz := sy.trans (((s1.trans s2).trans s3').trans s4')
  have wz := wx.same sxz
  have dzz := dp_same (off_same sxz) _ _ dzx
  have htz := htx.same (off_same sxz)
  generalize upd _ pq _ = Hz at *
  refine s_if (b_test (t_op ?_))
  by_cases c : meltA RR.length t = true
  · have okt : meltOk RR.length t = true := by rw [ask.eq]; exact c
    refine hd_let wz (fun H9 Ec Qc k9 w9 hQ => t_call2 (t_var rfl (t_var rfl ⟨S, RR, x, t, z, rfl, w9.kn, htz.kp k9, tb, k9.dp dzz, ask.sz, .inl ⟨okt, ask.dp, fun H' s => hQ _ H' s⟩⟩))) fun u1 He ee te due => ?_
    have we := wz.ext ee te
    refine t_if (b_val (t_var rfl ⟨_, rfl, ifT c ?_⟩))
    refine (ev_lst (K := K) (S := S) (ds := [.str "let"]) we.kn (ea_cons (ev_str "let") ea_nil) (show 1 ≤ 100 by decide)) He (Same.refl _) _ fun u2 Hf sf d2 => ?_
    refine ⟨_, _, dp_same off_sub _ _ (dp_same (off_same sf) _ _ due), dp_same off_sub _ _ d2, let_sh, let_sh, ⟨_, rfl, ifF (by rw [let_eqv]; rfl) (s_next ⟨_, _, rfl, (ex.trans (ExtN.of sxz)).trans (ee.trans (ExtN.of sf)), we.same sf⟩)⟩⟩
  · have cf : meltA RR.length t = false := by simpa using c
    have not : meltOk RR.length t = false := by rw [ask.eq]; exact cf
    refine hd_err wz (E := CM) (f := "value") (wd := "melt") (x := t) (by simp [hcs]) ask.tls (fun H9 Ec Qc k9 w9 hE => t_call2 (t_var rfl (t_var rfl ⟨S, RR, x, t, z, rfl, w9.kn, htz.kp k9, tb, k9.dp dzz, ask.sz, .inr ⟨not, fun dd H' s h => hE dd z H' s h (dp_same (off_same s) _ _ (k9.dp dzz))⟩⟩))) fun u1 He ee te due => ?_
    have we := wz.ext ee te
    have dze := (Kp.ext (S := S) ee).dp dzz
    refine t_if (b_val (t_var rfl ⟨_, rfl, ifF cf ?_⟩))
    refine (ev_lst (K := K) (S := S) (ds := [.str "melt", .str t.shown, .bool true]) we.kn (ea_cons (ev_str "melt") (ea_cons (fun H1 s Q q => t_cb1 (t_var rfl ⟨z, t, rfl, ⟨dp_same off_sub _ _ (dp_same (off_same s) _ _ dze), ask.tls⟩, q _ _ (Same.refl _) (.str _)⟩)) (ea_cons (ev_bl true) ea_nil))) (show 3 ≤ 100 by decide)) He (Same.refl _) _ fun u2 Hf sf d2 => ?_
    refine ⟨_, _, dp_same off_sub _ _ (dp_same (off_same sf) _ _ due), dp_same off_sub _ _ d2, told_sh (okS_of _) ask.ok, told_sh (okS_of _) ask.ok, ⟨_, rfl, ifF (by rw [told_eqv]; rfl) (s_next ⟨_, _, rfl, (ex.trans (ExtN.of sxz)).trans (ee.trans (ExtN.of sf)), we.same sf⟩)⟩⟩
end
end K31

set_option maxRecDepth 100000
set_option maxHeartbeats 8000000
namespace K31
open PySem PySem.Spec PyProof.Rows L2 Kh
open LamX (ExtN Tabs TabS TabB CodeO GivesTo LamS lamEnv lamCx)
/-- all but lists stay -/
def NL (H H' : Hp) : Prop := ∀ b o, H b = some o → (∀ xs, o ≠ .lst xs) → H' b = some o
theorem st_nl {K : PySem.W.Frag} {H H' : Hp} {a : Addr} {xs : List V} (e : NL H H') (h : SqT K H a xs) : SqT K H' a xs := by
  rcases h with (h | ⟨o, h⟩) | h
  · exact .inl (.inl (e _ _ h fun _ z => nomatch z))
  · exact .inl (.inr ⟨o, e _ _ h fun _ z => nomatch z⟩)
  · exact .inr h
theorem tT_nl {K : PySem.W.Frag} {H H' : Hp} {v : V} {R : List (List Nat)} (e : NL H H') (h : Dp K H v (tT R)) : Dp K H' v (tT R) := by
  obtain ⟨a, xs, rfl, hs, ha⟩ := tup_at (ds := R.map nT) h
  refine .tup (st_nl e hs) (dpa_of (dpa_len ha) fun i u d h1 h2 => ?_)
  obtain ⟨d', d1, d2⟩ := dpa_at ha h1
  rw [d1] at h2
  cases h2
  obtain ⟨r, _, _, rfl⟩ := at_map d1
  obtain ⟨b, ys, rfl, hb, hy⟩ := tup_at (ds := r.map nD) d2
  rw [dpa_nats hy] at hb
  exact .tup (st_nl e hb) (nats_dpa r)
theorem TabAt.nl {K : PySem.W.Frag} {C : Addr} {H H' : Hp} {R : List (List Nat)} {x : Addr} (e : NL H H') (h : TabAt K C H R x) : TabAt K C H' R x := by
  obtain ⟨dx, v, h0, h1⟩ := h
  exact ⟨dx, v, e _ _ h0 (fun _ z => nomatch z), tT_nl e h1⟩
section
variable {P : Program} {w : World} {K : PySem.W.Frag} {mg : Str → Option Value} {base : Heap} {a : Nat → Addr} {fd : Nat → FuncData} {C : Addr} {tk : Nat → Tok} {CS CT CV CM : Addr} {Ts : List (Addr × Str)}
def sP (p : Addr) : Addr → Prop := fun b => b = p
theorem wd_p {p : Addr} {H : Hp} (pt : PotAt H p) (t : Tabs Ts H) : Wd Ts (sP p) H := ⟨t, fun b hb => by
  obtain ⟨x, y, h, _⟩ := pt
  have e : b = p := hb
  rw [e]; exact .inr ⟨_, h, fun _ z => nomatch z⟩⟩
/-- the defs that make lambdas -/
structure Lms (base : Heap) (mg : Str → Option Value) (Ts : List (Addr × Str)) (fd : Nat → FuncData) : Prop where
  told : Lm base mg Ts (fd 26) "_law_told_right"
  ref : Lm base mg Ts (fd 27) "_law_refused_right"
  mel : Lm base mg Ts (fd 29) "_law_melts_right"
  many : Lm base mg Ts (fd 30) "_law_many_right"
def spRightX (Ts : List (Addr × Str)) : Sp := fun vs H Q _ => ∃ p : Addr, vs = [.ref p] ∧ PotAt H p ∧ Tabs Ts H ∧ ∀ H', EB p H H' → Tabs Ts H' → Q (.bl true) H'
theorem ok__law_rightX (T : Txt K mg a fd C tk) (U : TxC K mg a C) (D : TxD K C) (D2 : TxQ K a C) (R : TxR K mg a fd CS CT CV CM) (L : Lms base mg Ts fd) (kw_at : Kat K (fd 7)) (kw_init : Kin K (fd 5)) (kw_result : Kw2 K (fd 15) "table" "melt") (kw_is_melt : Kw2 K (fd 13) "table" "value") :
    FnG P w K mg base 50 (a 31) (fd 31) ["_law_pot_here"] (spRightX Ts) := by
  have G__law_table := ok__law_table (P := P) (w := w) (base := base) T
  have G_Table_init := ok_Table_init (P := P) (w := w) (base := base) T U
  have G_Table_eqX := ok_Table_eqX (P := P) (w := w) (base := base) T U D D2
  have G__law_told_right := ok__law_told_right (P := P) (w := w) (base := base) (Ts := Ts) T U D D2 R L.told kw_at kw_init
  have G__law_refused_right := ok__law_refused_right (P := P) (w := w) (base := base) (Ts := Ts) T U R L.ref
  have G__law_melts_right := ok__law_melts_right (P := P) (w := w) (base := base) (Ts := Ts) T U R L.mel kw_result kw_is_melt
  have G__law_many_right := ok__law_many_right (P := P) (w := w) (base := base) (Ts := Ts) T U R L.many
  refine fun_okC T.F__law_right sc__law_right (fun vs H Q E h => by obtain ⟨_, rfl, _⟩ := h; rfl) (fun A outer s H vs Q E hg hr h => ?_)
  obtain ⟨p, rfl, pt, tabs, q⟩ := h
  refine ⟨_, (pss_cons (ps_set (i := 1) sc__law_right.nd rfl (Or.inl rfl) (pe_call G__law_table (hr.mono (by omega)) (by rfl) T.m__law_table T.F__law_table.kp T.b__law_table .nil pass0 (pa_cons (pv 0) pa_nil)))
      (pss_cons (ps_setLc (i := 2) (own := [("_law_row", 4)]) (g := gName 4) (tt := tYes) rfl sc__law_right.nd rfl rfl (sw_true rfl rfl rfl (by decide +kernel)) (k_pi (K := K) (pv 1)) (blkOk_by (own := [("_law_row", 4)]) (N := _law_right_N) (sc := defScope _law_right_s) (by decide +kernel)) (fun _ _ _ _ _ => (pg_name (i := 4) sc__law_right.nd rfl (Or.inl rfl))) (fun _ _ _ _ _ => pts_nil) (fun _ _ _ _ _ => (pe_callTy (k_list (K := K)) (by rfl) T.z_list (by decide +kernel) (pa_cons (pv 4) pa_nil))))
      (pss_cons (ps_set (i := 3) sc__law_right.nd rfl (Or.inl rfl) (pe_make U.M_Table G_Table_init (hr.mono (by omega)) (by rfl) U.m_Table T.b_Table_init .nil pass0 (pa_cons (pv 2) pa_nil)))
      (pss_cons (ps_expr (pe_bm PySem.F.plainAttrs_list PySem.F.slot_list_append PySem.F.type_list_append mt_append (pe_ix (k_ix (K := K)) (pv 2) pe_int (fun _ _ => rfl)) (pa_cons pe_int pa_nil)))
      (pss_cons (ps_expr (pe_bm PySem.F.plainAttrs_list PySem.F.slot_list_append PySem.F.type_list_append mt_append (pv 2) (pa_cons (pe_lst pa_nil) pa_nil)))
      (pss_cons (ps_if (PW.pt (pw_or (pt_not (pt_val (pe_callG (runsG G__law_told_right hg T.b__law_told_right) (hr.mono (by omega)) (by rfl) T.m__law_told_right T.F__law_told_right.kp (pa_cons (pv 3) (pa_cons (pv 1) pa_nil))))) (pw_or1 (pt_not (pt_val (pe_callG (runsG G__law_refused_right hg T.b__law_refused_right) (hr.mono (by omega)) (by rfl) T.m__law_refused_right T.F__law_refused_right.kp (pa_cons (pv 0) (pa_cons (pv 1) pa_nil))))))))
        (pss_one (ps_ret pe_bl)) pss_nil)
      (pss_one (ps_ret (pe_and (pe_callG (runsG G__law_melts_right hg T.b__law_melts_right) (hr.mono (by omega)) (by rfl) T.m__law_melts_right T.F__law_melts_right.kp (pa_cons (pv 0) (pa_cons (pv 3) (pa_cons (pv 1) pa_nil)))) (pe_and (pe_callG (runsG G__law_many_right hg T.b__law_many_right) (hr.mono (by omega)) (by rfl) T.m__law_many_right T.F__law_many_right.kp (pa_cons (pv 3) (pa_cons (pv 1) pa_nil))) (pe_one (pe_cmpR (k_eqI (K := K) (k := 2) (runsOk G_Table_eqX T.b_Table_eq) (hr.mono (by omega)) U.me_eq) (pv 3) (pe_make U.M_Table G_Table_init (hr.mono (by omega)) (by rfl) U.m_Table T.b_Table_init .nil pass0 (pa_cons (pv 1) pa_nil)) (nomark _))))))))))))), ?_⟩
  have wd : Wd Ts (sP p) H := wd_p pt tabs
  have hS : sP p p := rfl
  generalize eS : sP p = S at wd hS
  refine s_seq (s_set (t_call1 (t_var rfl ⟨S, p, rfl, wd.kn, hS, pt, fun v H1 RR sb1 pt1 tb hv1 => nx_of ?_⟩)))
  have p1 := tb.pos
  have p7 := tb.few
  have wd1 := Wd.pot wd pt sb1 pt1
  refine s_seq (s_set (lc_seqN (b := false) (ds := RR.map nL) rp_np (fun j => nL (RR.getD j [])) (old_of wd1.kn) kn_old (fun Q q => t_var rfl (q _ _ (Same.refl _) hv1)) (by rw [List.length_map]; omega) (fun _ => rfl) (fun j y d H2 Sa Sb dj s2 hab kb dy hSS Q q => ?_) fun lD H2 ys hD s12 hd2 n2 => nx_of ?_))
  · obtain ⟨r, rj, rm, rfl⟩ := at_map dj
    have er : RR.getD j [] = r := by rw [List.getD_eq_getElem?_getD, rj]; rfl
    refine t_cb1 (t_var rfl (list_d (fun b hb => kb b (hab b hb)) dy rfl fun l xs hl ha h => q _ _ (same_new hl) ?_))
    rw [er, dpa_nats (ns := r) ha]
    exact .lst (by rw [off_out (kb.new hl)]; exact upd_same) (by simp) fun i z d h1 h2 => by
      simp only [List.getElem?_map] at h1 h2
      cases e : r[i]? with
      | none => rw [e] at h1; cases h1
      | some n => rw [e] at h1 h2; cases h1; cases h2; exact .int _
  have eL : ((List.range (RR.map nL).length).map fun j => nL (RR.getD j [])) = RR.map nL := by
    rw [List.length_map]
    apply List.ext_getElem (by simp)
    intro i h1 h2
    simp only [List.getElem_map, List.getElem_range]
    rw [List.getD_eq_getElem?_getD, List.getElem?_eq_getElem (by simpa using h1)]; rfl
  rw [eL] at n2
  have kn2 := wd1.kn.same s12
  have dD2 : Dp K (off S H2) (.ref lD) (nLL RR) := dp_same (off_less (old_of wd1.kn)) _ _ n2.dp
  obtain ⟨_, ys2, eD, gD, fD, lenD, itD⟩ := new_list n2
  cases eD
  rw [List.length_map] at lenD
  have ex0 : ys2[0]? = some ys2[0] := List.getElem?_eq_getElem (by omega)
  obtain ⟨l0, zs, e0, g0, f0, len0, _⟩ := new_list (itD 0 _ (nL (RR.getD 0 [])) ex0 (by rw [row_get tb nL (by omega)]))
  rw [e0] at ex0
  rw [List.length_map, tb.row _ (tb.get (i := 0) (by omega)).2] at len0
  refine s_seq (s_set (mk_table RR tb kn2 (fun Q q => t_var rfl (q _ _ (Same.refl _) dD2)) fun x H3 s23 hx3 => nx_of ?_))
  have gD3 := s23 _ _ gD
  have g03 := s23 _ _ g0
  have sz : 1000 ≤ sizeLine := by decide
  have ty0 : tyV K "list" (.ref l0) H3 := .inl ⟨rfl, zs, sqL g03⟩
  refine s_seq (s_drop (t_bm (t_op (t_var rfl (t_c (.inl ⟨lD, ys2, ((0 : Nat) : Int), .ref l0, rfl, rfl, sqL gD3, atI_nat ex0, ⟨ty0, a_cons (t_c (a_nil ⟨l0, zs, .int 0, rfl, rfl, g03, by omega, nx_of ?_⟩))⟩⟩))))))
  have g04 : (upd H3 l0 (.lst (zs ++ [V.int 0]))) l0 = some (.lst (zs ++ [V.int 0])) := upd_same
  obtain ⟨yx, gD4, lx⟩ : ∃ yx, (upd H3 l0 (.lst (zs ++ [V.int 0]))) lD = some (.lst yx) ∧ yx.length ≤ 10 := by
    by_cases e : lD = l0
    · subst e
      exact ⟨_, g04, by simp; omega⟩
    · exact ⟨ys2, by rw [upd_ne e]; exact gD3, by omega⟩
  have tyD : tyV K "list" (.ref lD) (upd H3 l0 (.lst (zs ++ [V.int 0]))) := .inl ⟨rfl, yx, sqL gD4⟩
  refine s_seq (s_drop (t_bm (t_var rfl ⟨tyD, a_cons (t_lst (a_nil ⟨Nat.zero_le _, fun pe hpe => a_nil ⟨lD, yx, .ref pe, rfl, rfl, same_new hpe _ _ gD4, by omega, nx_of ?_⟩⟩))⟩)))
  have s16 : Same H1 (upd (upd (upd H3 l0 (.lst (zs ++ [V.int 0]))) pe (.lst [])) lD (.lst (yx ++ [V.ref pe]))) := fun b o hb => by
    have hb3 := s23 _ _ (s12 _ _ hb)
    rw [upd_ne (ne_of_none hb fD), upd_ne (ne_of_none (show (upd H3 l0 (.lst (zs ++ [V.int 0]))) b = some o by rw [upd_ne (ne_of_none hb f0)]; exact hb3) hpe), upd_ne (ne_of_none hb f0)]
    exact hb3
  have n36 : NL (off S H3) (off S (upd (upd (upd H3 l0 (.lst (zs ++ [V.int 0]))) pe (.lst [])) lD (.lst (yx ++ [V.ref pe])))) := fun b o hb nl => by
    obtain ⟨n, hb⟩ := off_some hb
    have b1 : b ≠ lD := fun e => by rw [e, gD3] at hb; exact nl _ (Option.some.inj hb).symm
    have b2 : b ≠ l0 := fun e => by rw [e, g03] at hb; exact nl _ (Option.some.inj hb).symm
    have h4 : (upd H3 l0 (.lst (zs ++ [V.int 0]))) b = some o := by rw [upd_ne b2]; exact hb
    rw [off_out n, upd_ne b1, upd_ne (ne_of_none h4 hpe)]
    exact h4
  generalize upd (upd (upd H3 l0 (.lst (zs ++ [V.int 0]))) pe (.lst [])) lD (.lst (yx ++ [V.ref pe])) = H6 at *
  have wd6 := wd1.same s16
  have hx6 := hx3.nl n36
  have hv6 := dp_same (off_same s16) _ _ hv1
  have pt6 := pt1.same s16
  have eb6 : EB p H H6 := (EB.sb sb1).trans (EB.ext (ExtN.of s16))
  clear n36 s16 gD4 g04 tyD ty0 gD3 g03 hx3 dD2 n2 itD e0 ex0
  refine s_seq (s_if (b_or (b_not (b_val (t_call2 (t_var rfl (t_var rfl ⟨S, RR, x, v, rfl, wd6, hx6, tb, hv6, fun H7 e7 t7 => ⟨_, rfl, ifF rfl ?_⟩⟩)))))))
  have wd7 := wd6.ext e7 t7
  have hv7 := (Kp.ext (S := S) e7).dp hv6
  have hx7 := hx6.kp (Kp.ext (S := S) e7)
  refine b_not (b_val (t_call2 (t_var rfl (t_var rfl ⟨S, p, RR, v, rfl, wd7, hS, pt6.ext e7, tb, hv7, fun H8 e8 pt8 t8 => ⟨_, rfl, ifF rfl (s_next ?_)⟩⟩))))
  have wd8 : Wd Ts S H8 := eS ▸ wd_p pt8 t8
  have hv8 := (e8.kp hS).dp hv7
  have hx8 := hx7.kp (e8.kp hS)
  refine s_ret (t_andV (t_call (a_cons (t_var rfl (a_cons (t_var rfl (a_cons (t_var rfl (a_nil ⟨S, p, x, RR, v, rfl, wd8, hS, pt8, hx8, tb, hv8, fun H9 e9 pt9 t9 => bl_ifT ?_⟩)))))))))
  have wd9 : Wd Ts S H9 := eS ▸ wd_p pt9 t9
  have hv9 := (e9.kp hS).dp hv8
  have hx9 := hx8.kp (e9.kp hS)
  refine t_andV (t_call2 (t_var rfl (t_var rfl ⟨S, RR, x, v, rfl, wd9, hx9, tb, hv9, fun H10 e10 t10 => bl_ifT ?_⟩)))
  have wd10 := wd9.ext e10 t10
  have hv10 := (Kp.ext (S := S) e10).dp hv9
  have hx10 := hx9.kp (Kp.ext (S := S) e10)
  refine t_op (t_var rfl (mk_table RR tb wd10.kn (fun Q q => t_var rfl (q _ _ (Same.refl _) hv10)) fun y H11 s11 hy => ?_))
  have hx11 := hx10.same (off_same s11)
  refine ⟨tab_isI hx11, ty_tab hy, S, RR, x, .ref y, rfl, wd10.kn.same s11, hx11, .inl ⟨RR, y, rfl, hy, fun H12 s12' => ?_⟩⟩
  rw [decide_eq_true rfl]
  have s1012 := s11.trans s12'
  exact q _ (eb6.trans ((EB.ext e7).trans (e8.trans (e9.trans ((EB.ext e10).trans (EB.ext (ExtN.of s1012))))))) (wd10.same s1012).tab
end
end K31

set_option maxRecDepth 100000
set_option maxHeartbeats 4000000
namespace K31
open PySem PySem.Spec PyProof.Rows L2 Kh
open LamX (ExtN Tabs TabS TabB CodeO GivesTo LamS lamEnv lamCx)
theorem ext_put {H H' : Hp} {p : Addr} {o : HO} (hp : H p = none) (e : ExtN H H') : ExtN H (upd H' p o) := fun b u h n => by
  rw [upd_ne (ne_of_none h hp)]; exact e b u h n
/-- [e for x in range(n)], e True, where tables may change -/
theorem lc_rngX {Ts : List (Addr × Str)} {H : Hp} {σ : L2.St} {te : TE} {sl : Nat} {vs : List Nat} {Q : VK} {n : Nat} {ta : TA} (tabs : Tabs Ts H) (hn : n ≤ 1000)
    (hev : ∀ q : List V → Hp → Prop, (∀ H1, Same H H1 → q [.int (n : Nat)] H1) → ta σ H q) (hw : ∀ x, wipe ((wipe σ vs).set sl (some x)) vs = wipe σ vs)
    (body : ∀ j H1, j < n → ExtN H H1 → Tabs Ts H1 → ∀ Q : VK, (∀ H', ExtN H1 H' → Tabs Ts H' → Q (.bl true) H') → te ((wipe σ vs).set sl (some (.int (j : Nat)))) H1 Q)
    (done : ∀ D H1, ExtN H H1 → Tabs Ts H1 → H1 D = some (.lst (List.replicate n (V.bl true))) → Q (.ref D) H1) :
    tLc (iRng1 ta) (gName sl) tYes te vs σ H Q := by
  refine hev _ fun H1 s1 => ⟨(n : Nat), rfl, by omega, by omega, fun D hD => ?_⟩
  have t1 := tabs.ext s1
  refine wlk walk_range (fun x H' Nx => gName sl x (wipe σ vs) H' fun σ2 H2 => wipe σ2 vs = wipe σ vs ∧ tYes σ2 H2 fun b H3 => if b = true then te σ2 H3 fun y H4 => ∃ acc, H4 D = some (.lst acc) ∧ acc.length < sizeLine ∧ Nx (upd H4 D (.lst (acc ++ [y]))) else Nx H3)
    (fun i H' => ExtN H1 H' ∧ Tabs Ts H' ∧ H' D = some (.lst (List.replicate i (V.bl true)))) ⟨ExtN.of (same_new hD), t1.ext (same_new hD), upd_same⟩ (fun _ _ _ _ => trivial) ?_ ?_
  · rintro i x H2 H3 hi ⟨e2, t2, hd⟩ ⟨rfl, rfl⟩
    have e0 : V.int (0 + ((i : Nat) : Int)) = V.int (i : Nat) := by rw [Int.zero_add]
    refine g_name ⟨hw _, t_yes ?_⟩
    show te ((wipe σ vs).set sl (some (.int (0 + ((i : Nat) : Int))))) H3 _
    rw [e0]
    refine body i H3 hi ((ExtN.of s1).trans e2) t2 _ fun H' e t => ?_
    have hd' := e _ _ hd (fun _ z => nomatch z)
    refine ⟨_, hd', ?_, ext_put hD (e2.trans e), tabs_mut t hd', ?_⟩
    · rw [List.length_replicate]; exact Nat.lt_of_lt_of_le (show i < 1000 by omega) (by decide)
    · rw [upd_same, List.replicate_succ']
  · rintro H2 ⟨e2, t2, hd⟩
    exact done D H2 ((ExtN.of s1).trans e2) t2 hd
theorem ext_mv {H H' : Hp} (e : ExtN H H') : Mv H H' := fun b o h => e b o (nt_some h).1 (nt_some h).2
theorem all_true {K : PySem.W.Frag} {H : Hp} {D : Addr} {n : Nat} {Q : VK} (h : H D = some (.lst (List.replicate n (V.bl true)))) (q : Q (.bl true) H) : rAll K [.ref D] H Q := by
  refine ⟨D, List.replicate n true, rfl, ?_, ?_⟩
  · rw [List.map_replicate]; exact sqL h
  · have : (List.replicate n true).all id = true := List.all_eq_true.mpr fun b hb => by rw [(List.mem_replicate.mp hb).2]; rfl
    rw [this]; exact q
theorem dp_script {K : PySem.W.Frag} {H : Hp} {p : Addr} {ns : List Int} (h : SqL K H p (ns.map V.int)) : Dp K H (.ref p) (.list (ns.map PyData.int)) := by
  refine .lst h ?_
  clear h
  induction ns with
  | nil => exact .nil
  | cons n ns ih => exact .cons (.int n) ih
theorem two_of (n : Nat) : ∃ m : Nat, 1 ≤ m ∧ m ≤ 2 ∧ (if (if (n : Int) < 2 then (n : Int) else 2) > 1 then (if (n : Int) < 2 then (n : Int) else 2) else 1) = (m : Int) := by
  by_cases h : (n : Int) < 2
  · rw [if_pos h]
    by_cases h2 : (n : Int) > 1
    · rw [if_pos h2]; exact ⟨n, by omega, by omega, rfl⟩
    · rw [if_neg h2]; exact ⟨1, by decide, by decide, rfl⟩
  · rw [if_neg h, if_pos (by decide)]; exact ⟨2, by decide, by decide, rfl⟩
section
variable {P : Program} {w : World} {K : PySem.W.Frag} {mg : Str → Option Value} {base : Heap} {a : Nat → Addr} {fd : Nat → FuncData} {C : Addr} {tk : Nat → Tok} {CS CT CV CM : Addr} {Ts : List (Addr × Str)}
/-- the law of a script, where tables stand -/
def spLawX (K : PySem.W.Frag) (Ts : List (Addr × Str)) : Sp := fun vs H Q _ => ∃ (p : Addr) (ns : List Int), vs = [.ref p] ∧ SqL K H p (ns.map V.int) ∧ ns.length ≤ 100000 ∧ Tabs Ts H ∧ ∀ H', Q (.bl true) H'
theorem ok_lawX (T : Txt K mg a fd C tk) (U : TxC K mg a C) (D : TxD K C) (D2 : TxQ K a C) (R : TxR K mg a fd CS CT CV CM) (L : Lms base mg Ts fd) (kw_at : Kat K (fd 7)) (kw_init : Kin K (fd 5)) (kw_result : Kw2 K (fd 15) "table" "melt") (kw_is_melt : Kw2 K (fd 13) "table" "value") :
    FnG P w K mg base 51 (a 32) (fd 32) ["_law_script"] (spLawX K Ts) := by
  have G__law_pot := ok__law_pot (P := P) (w := w) (base := base) T
  have G__law_right := ok__law_rightX (P := P) (w := w) (base := base) (Ts := Ts) T U D D2 R L kw_at kw_init kw_result kw_is_melt
  refine fun_okC T.F_law sc_law (fun vs H Q E h => by obtain ⟨_, _, rfl, _⟩ := h; rfl) (fun A outer s H vs Q E hg hr h => ?_)
  obtain ⟨p, ns, rfl, hp, hl, tabs, q⟩ := h
  refine ⟨_, (pss_one (ps_ret (pe_callB (k_all (K := K) rfl) (by rfl) T.z_all (by decide +kernel) (pa_cons (pe_lc (own := [("_law_k", 1)]) (g := gName 1) (tt := tYes) rfl sc_law.nd (pi_range1 (by rfl) T.z_range (pa_cons (pe_callB (call_max2R rfl) (by rfl) T.z_max (by decide +kernel) (pa_cons pe_int (pa_cons (pe_callB (call_min2R rfl) (by rfl) T.z_min (by decide +kernel) (pa_cons pe_int (pa_cons (pe_callB (k_len (K := K)) (by rfl) T.z_len (by decide +kernel) (pa_cons (pv 0) pa_nil)) pa_nil))) pa_nil))) pa_nil)) (blkOk_by (own := [("_law_k", 1)]) (N := law_N) (sc := defScope law_s) (by decide +kernel)) (fun _ _ _ _ _ => (pg_name (i := 1) sc_law.nd rfl (Or.inl rfl))) (fun _ _ _ _ _ => pts_nil) (fun _ _ _ _ _ => (pe_callG (runsG G__law_right hg T.b__law_right) (hr.mono (by omega)) (by rfl) T.m__law_right T.F__law_right.kp (pa_cons (pe_call G__law_pot (hr.mono (by omega)) (by rfl) T.m__law_pot T.F__law_pot.kp T.b__law_pot .nil pass0 (pa_cons (pv 0) (pa_cons (pv 1) pa_nil))) pa_nil)))) pa_nil)))), ?_⟩
  have hd := dp_script hp
  obtain ⟨m, m1, m2, em⟩ := two_of ns.length
  refine s_ret (t_cb1 (lc_rngX (Ts := Ts) (n := m) tabs (by omega) (fun q' h' => ?_) (fun _ => rfl) (fun j H1 hj e1 t1 Q' q' => ?_) fun L' H1 e1 t1 h1 => all_true h1 (q H1)))
  · refine a_cons (t_cb2 (t_c (t_cb2 (t_c (t_cb1 (t_var rfl (len_d (Same.refl H) hd rfl ⟨_, _, rfl, ⟨_, _, rfl, a_nil ?_⟩⟩)))))))
    rw [List.length_map, em]
    exact h' H (Same.refl _)
  · refine t_call1 (t_call2 (t_var rfl (t_var rfl ⟨.ref p, ns, j, rfl, (ext_mv e1).dp hd, by omega, fun po H2 s2 hn pt => ⟨po, rfl, pt, t1.ext s2, fun H3 eb t3 => q' H3 (fun b o h n => eb b o (ne_of_none h hn) (s2 b o h) n) t3⟩⟩)))
end
end K31

set_option maxRecDepth 100000
namespace K31
open PySem PySem.Spec PyProof.Rows L2 Kh
def allTy (l : List Value) : Bool := l.all fun v => match v with
  | .type _ => true
  | _ => false
theorem allTy_not {l : List Value} {C : Addr} (h : allTy l = true) : l.contains (.ref C) = false := by
  induction l with
  | nil => rfl
  | cons v l ih =>
    unfold allTy at h
    rw [List.all_cons, Bool.and_eq_true] at h
    have e : (Value.ref C == v) = false := by
      cases v with
      | type _ => rfl
      | _ => exact absurd h.1 (by simp)
    rw [List.contains_cons, e, Bool.false_or]
    exact ih h.2
theorem kit_oth {K : PySem.W.Frag} {C : Addr} {n : String} {u} (ci : PySem.W.clsIn K C = some u) (ty : PySem.W.typeIn K (.ref C) = some (.type "type")) (h : ((fastBuiltinMro n).map allTy) = some true) : PySem.W.kitOne K (.type n) (.ref C) = some false := by
  unfold PySem.W.kitOne
  rw [if_neg (by show ¬ ((Value.type n == Value.ref C) = true); exact fun z => nomatch z)]
  show (if ((PySem.W.clsIn K C).isSome && PySem.W.typeIn K (.ref C) == some (.type "type")) = true then PySem.W.subIn K (.type n) (.ref C) else none) = some false
  rw [ci, ty, if_pos (by simp)]
  show (fastBuiltinMro n).map (·.contains (.ref C)) = some false
  cases e : fastBuiltinMro n with
  | none => rw [e] at h; cases h
  | some l => rw [e] at h; exact congrArg some (allTy_not (Option.some.inj h))
theorem mro6 : ∀ n ∈ ["NoneType", "bool", "int", "str", "list", "tuple"], ((fastBuiltinMro n).map allTy) = some true := by decide +kernel
end K31

set_option maxRecDepth 100000
set_option maxHeartbeats 4000000
namespace Kh
open PySem PySem.Spec PyProof.Rows L2
/-! the law's promise where the guards are told -/
section
variable {P : Program} {w : World} {K : PySem.W.Frag} {mg mb : Str → Option Value} {s : Shared} {H : Hp} {a b : Addr} {o : Obj}
/-- what stands behind the top -/
structure Top (K : PySem.W.Frag) (mg mb : Str → Option Value) (s : Shared) : Prop where
  kin : K.In s.heap
  own : s.heap.Ns mainGlobals mg
  bui : s.heap.Ns builtinsNs mb
  boot : ∀ y : Str, y ≠ "__name__" → mb y = bootBuiltins y
  lim : s.heap.NoLimit
  gen : s.gens = #[]
/-- H knows frozen lists alone, none of them of K -/
def Thin (K : PySem.W.Frag) (s : Shared) (H : Hp) : Prop := ∀ c u, H c = some u → K.lookup c = none ∧ ∃ p xs v n, u = .frz p (.lst xs) ∧ s.heap.get? c = some p ∧ p.data = .seq v n
theorem Thin.get (t : Thin K s H) (g : s.heap.get? b = some o) (n : K.lookup b ≠ none ∨ ∃ es ep, o.data = .dict es ep) : (hidT s.heap H).get? b = some o := by
  refine hidT_get g (Classical.byContradiction fun z => ?_)
  obtain ⟨u, hu⟩ := Option.ne_none_iff_exists'.mp z
  obtain ⟨k, p, xs, v, m, _, g2, d⟩ := t b u hu
  rcases n with n | ⟨es, ep, n⟩
  · exact n k
  · rw [Option.some.inj (g.symm.trans g2), d] at n
    cases n
theorem Thin.ns {m : Str → Option Value} (t : Thin K s H) (h : s.heap.Ns b m) : (hidT s.heap H).Ns b m := by
  obtain ⟨p, es, ep, g, d, r⟩ := h
  exact ⟨p, es, ep, t.get g (.inr ⟨es, ep, d⟩), d, r⟩
theorem Thin.kin (t : Thin K s H) (h : K.In s.heap) : K.In (hidT s.heap H) := fun c p l => t.get (h c p l) (.inl (by rw [l]; exact fun z => nomatch z))
theorem Top.env (T : Top K mg mb s) (t : Thin K s H) (ok : HOk P w H s.heap) : Env0 P w K mg (hidT s.heap H) callerA [] s H where
  frames := rfl
  mod := ⟨t.kin T.kin, t.ns T.own, ⟨mb, t.ns T.bui, T.boot⟩, by
    obtain ⟨mc, l1, l2⟩ := T.lim
    exact ⟨mc, t.ns l1, l2⟩⟩
  bs := fun _ _ g => of_hidT g
  bsz := Nat.le_of_eq (hidT_size _ _)
  funs := trivial
  frf := fun _ z => nomatch z
  hok := ok
  bare := .of_eq T.gen
/-- a call of the law has ended so -/
theorem Thin.done (t : Thin K s H) (ok : HOk P w H s.heap) {r : Result} {s' : Shared} (h : CR CX0 [] P w H s (fun v _ => v = .bl true) (fun _ _ _ => False) r s') : r = .ok (.ret (.bool true)) ∧ OldK s.heap s'.heap ∧ s'.os = s.os ∧ AllBare s'.gens := by
  match r, h with
  | .ok (.ret u), ⟨v, H', eo, ab, n, ok', rv, q⟩ =>
    have q : v = .bl true := q
    rw [q] at rv
    have rv : u = Value.bool true := rv
    refine ⟨by rw [rv], OldK.of_keep fun c p g => ?_, eo, ab⟩
    cases e : H c with
    | none => exact n.keep c p g e (fun z => nomatch z) (fun z => nomatch z)
    | some x =>
      obtain ⟨_, p', xs, _, _, rfl, _⟩ := t c x e
      rw [(ok c _ e).1] at g
      rw [← g]
      exact (ok' c _ (n.frzs c p' _ e)).1
/-- the script, known -/
theorem thin_of {vs : List Value} {ns : List Int} (T : Top K mg mb s) (g : s.heap.get? a = some { cls := .type "list", data := .seq vs.toArray }) (r : IntsAre vs ns) (l : ns.length ≤ sizeLine) : ∃ H, Thin K s H ∧ HOk P w H s.heap ∧ SqL K H a (ns.map V.int) := by
  by_cases k : K.lookup a = none
  · refine ⟨upd (fun _ => none) a (.frz { cls := .type "list", data := .seq vs.toArray } (.lst (ns.map V.int))), ?_, ?_, .inl (.inr ⟨_, upd_same⟩)⟩
    all_goals
      intro c u hu
      by_cases e : c = a
      · rw [e, upd_same] at hu
        obtain rfl := Option.some.inj hu
        rw [e]
        first
          | exact ⟨k, _, _, _, _, rfl, g, rfl⟩
          | exact ⟨g, by rw [List.length_map]; exact l, vs, _, vals_ints r, g⟩
      · rw [upd_ne e] at hu
        cases hu
  · obtain ⟨p, hp⟩ := Option.ne_none_iff_exists'.mp k
    obtain rfl := Option.some.inj (g.symm.trans (T.kin a p hp))
    exact ⟨fun _ => none, fun _ _ z => (nomatch z), fun _ _ z => (nomatch z), .inr ⟨_, vs.toArray, _, hp, rfl, rfl, rfl, by rw [List.size_toArray, r.length]; exact l, by simpa using vals_ints r⟩⟩
end
/-- from the promise of the law's def to the walk of the law -/
theorem walk_g {l : PySem.W.OpenLaw} {n k : Nat} {q : Program} {loose : List Str} {XP : (Str → Option Value) → Heap → Prop} {YP : World → Heap → Prop} {d : DefRec} {K : Params → PySem.W.Frag} {sp : World → Sp} {x : Str} (most : l.most = some n) (le : n ≤ sizeLine) (df : d.params.defaults = []) (room : Room k callerA)
    (kin : ∀ (w : World) (h : Heap), YP w h → (K w.params).In h)
    (F : ∀ (w : World) (mg : Str → Option Value) (fa : Addr) (h : Heap), (K w.params).In h → h.Ns mainGlobals mg → mg d.name = some (.ref fa) → ∃ fd : FuncData, (∀ (s : Shared) (u : Value), BindsTo s fd ⟨[u], []⟩ [(x, u)]) ∧ ∀ base : Heap, (K w.params).In base → base.Ns mainGlobals mg → FnG l.prog w (K w.params) mg base k fa fd [x] (sp w))
    (holds : ∀ (w : World) (H : Hp) (a : Addr) (ns : List Int), ns.length ≤ n → SqL (K w.params) H a (ns.map V.int) → sp w [.ref a] H (fun v _ => v = .bl true) fun _ _ _ => False) : PySem.W.WalkO q loose XP YP l.row.toRowW d [] (fun f vs => PySem.call f vs) :=
  Att.attach_call most df fun w _ s mg mb fa _ _ _ _ a vs ns G Y _ _ _ hf hs hi hl hg => by
    have T : Top (K w.params) mg mb s := ⟨kin w _ Y, G.T.g, G.T.b, G.T.builtins, G.T.nolimit, hg⟩
    obtain ⟨fd, bd, R⟩ := F w mg fa _ T.kin T.own hf
    obtain ⟨H, t, ok, sq⟩ := thin_of (P := l.prog) (w := w) T hs hi (Nat.le_trans hl le)
    exact codeAny_mono ((R _ (t.kin T.kin) (t.ns T.own)).run callerA [] s H ⟨[.ref a], []⟩ [.ref a] [.ref a] _ _ rfl room (T.env t ok) (bd s (.ref a)) (.cons rfl .nil) (holds w H a ns hl sq)) fun r s' h => t.done ok h
end Kh

set_option maxRecDepth 100000
set_option maxHeartbeats 4000000
namespace Kh
open PySem PySem.Spec PyProof.Rows L2
open LamX (TabB Tabs TabS)
/-! the law's promise where some defs' tables are known to be empty -/
section
variable {P : Program} {w : World} {K : PySem.W.Frag} {mg mb : Str → Option Value} {s : Shared} {H : Hp} {a b : Addr} {o : Obj} {cs : List (Addr × Addr)}
/-- an empty table, one of cs -/
def OneTab (cs : List (Addr × Addr)) (c : Addr) (u : HO) : Prop := u = .tbl #[] ∧ ∃ q ∈ cs, q.2 = c
/-- a frozen list -/
def OneFrz (s : Shared) (c : Addr) (u : HO) : Prop := ∃ p xs v n, u = .frz p (.lst xs) ∧ s.heap.get? c = some p ∧ p.data = .seq v n
/-- H knows frozen lists and the tables of cs, nothing of K -/
structure ThinT (K : PySem.W.Frag) (s : Shared) (H : Hp) (cs : List (Addr × Addr)) : Prop where
  out : ∀ c u, H c = some u → K.lookup c = none
  two : ∀ c u, H c = some u → OneFrz s c u ∨ OneTab cs c u
  tab : PySem.W.TabsAt cs s.heap
  all : ∀ q ∈ cs, H q.2 = some (.tbl #[])
theorem ThinT.get (t : ThinT K s H cs) (g : s.heap.get? b = some o) (n : K.lookup b ≠ none ∨ (∀ v m, o.data ≠ .seq v m) ∧ o.data ≠ .fields #[]) : (hidT s.heap H).get? b = some o := by
  refine hidT_get g (Classical.byContradiction fun z => ?_)
  obtain ⟨u, hu⟩ := Option.ne_none_iff_exists'.mp z
  rcases n with n | ⟨n1, n2⟩
  · exact n (t.out b u hu)
  · rcases t.two b u hu with ⟨p, xs, v, m, _, g2, d⟩ | ⟨_, q, hq, e⟩
    · obtain rfl := Option.some.inj (g.symm.trans g2)
      exact n1 v m d
    · have g2 := (t.tab q hq).2
      rw [e] at g2
      obtain rfl := Option.some.inj (g.symm.trans g2)
      exact n2 rfl
theorem ThinT.ns {m : Str → Option Value} (t : ThinT K s H cs) (h : s.heap.Ns b m) : (hidT s.heap H).Ns b m := by
  obtain ⟨p, es, ep, g, d, r⟩ := h
  exact ⟨p, es, ep, t.get g (.inr ⟨fun _ _ z => (by rw [d] at z; cases z), fun z => (by rw [d] at z; cases z)⟩), d, r⟩
theorem ThinT.kin (t : ThinT K s H cs) (h : K.In s.heap) : K.In (hidT s.heap H) := fun c p l => t.get (h c p l) (.inl (by rw [l]; exact fun z => nomatch z))
theorem Top.envT (T : Top K mg mb s) (t : ThinT K s H cs) (ok : HOk P w H s.heap) : Env0 P w K mg (hidT s.heap H) callerA [] s H where
  frames := rfl
  mod := ⟨t.kin T.kin, t.ns T.own, ⟨mb, t.ns T.bui, T.boot⟩, by
    obtain ⟨mc, l1, l2⟩ := T.lim
    exact ⟨mc, t.ns l1, l2⟩⟩
  bs := fun _ _ g => of_hidT g
  bsz := Nat.le_of_eq (hidT_size _ _)
  funs := trivial
  frf := fun _ z => nomatch z
  hok := ok
  bare := .of_eq T.gen
/-- the module of the builtins, as the top tells it -/
def BuiMod (mg : Str → Option Value) (h : Heap) : Prop := ∃ (bm : Addr) (ob : Obj), mg "__builtins__" = some (.ref bm) ∧ bm ≠ builtinsNs ∧ h.get? bm = some ob ∧ ob.cls = .type "module" ∧ ob.dict = some builtinsNs ∧ ob.data = .plain
theorem ThinT.tabB (t : ThinT K s H cs) (own : s.heap.Ns mainGlobals mg) (bm : BuiMod mg s.heap) : ∀ q ∈ cs, TabB (hidT s.heap H) mg q.1 q.2 := fun q hq => by
  obtain ⟨cd, gq⟩ := t.tab q hq
  refine ⟨?_, ?_, ?_⟩
  · obtain ⟨oc, us, fl, tf, fg, tg, inF, tx, tt, g1, g2, g3, g4, r⟩ := cd
    refine ⟨oc, us, fl, tf, fg, tg, inF, tx, tt, t.get g1 (.inr ⟨fun v m z => ?_, fun z => ?_⟩), g2, g3, g4, r⟩
    · rw [g3] at z; cases z
    · rw [g3] at z; cases z; simp at g4
  · obtain ⟨bm, ob, m1, m2, m3, m4, m5, m6⟩ := bm
    refine ⟨bm, ob, m1, m2, ?_, ?_, t.get m3 (.inr ⟨fun v m z => ?_, fun z => ?_⟩), m4, m5, m6⟩
    · rintro rfl
      obtain ⟨p, es, ep, g, d, _⟩ := own
      obtain rfl := Option.some.inj (g.symm.trans m3)
      rw [m6] at d; cases d
    · rintro rfl
      obtain rfl := Option.some.inj (gq.symm.trans m3)
      cases m6
    · rw [m6] at z; cases z
    · rw [m6] at z; cases z
  · intro e
    obtain ⟨p, es, ep, g, d, _⟩ := own
    rw [e] at g
    obtain rfl := Option.some.inj (gq.symm.trans g)
    cases d
/-- a call of the law has ended so -/
theorem ThinT.done (t : ThinT K s H cs) (ok : HOk P w H s.heap) {r : Result} {s' : Shared} (h : CR CX0 [] P w H s (fun v _ => v = .bl true) (fun _ _ _ => False) r s') : r = .ok (.ret (.bool true)) ∧ OldK s.heap s'.heap ∧ s'.os = s.os ∧ AllBare s'.gens := by
  match r, h with
  | .ok (.ret u), ⟨v, H', eo, ab, n, ok', rv, q⟩ =>
    have q : v = .bl true := q
    rw [q] at rv
    have rv : u = Value.bool true := rv
    have tabs : ∀ q ∈ cs, ∃ more, s'.heap.get? q.2 = some (PySem.W.tabObj more) := fun q hq => by
      obtain ⟨more, e⟩ := n.tbls _ _ (t.all q hq)
      exact ⟨_, ok' _ _ e⟩
    have keep : ∀ c p, s.heap.get? c = some p → s'.heap.get? c = some p ∨ ∃ q ∈ cs, q.2 = c := fun c p g => by
      cases e : H c with
      | none => exact .inl (n.keep c p g e (fun z => nomatch z) fun z => nomatch z)
      | some x =>
        rcases t.two c x e with ⟨p', xs, _, _, rfl, _⟩ | ⟨_, h⟩
        · rw [(ok c _ e).1] at g
          rw [← g]
          exact .inl (ok' c _ (n.frzs c p' _ e)).1
        · exact .inr h
    refine ⟨by rw [rv], ⟨fun c p g => ?_, fun c p g => ?_⟩, eo, ab⟩
    · rcases keep c p g with k | ⟨q, hq, rfl⟩
      · exact .inl k
      · obtain ⟨more, e⟩ := tabs q hq
        obtain ⟨cd, g0⟩ := t.tab q hq
        obtain rfl := Option.some.inj (g0.symm.trans g)
        exact .inr (.inl ⟨(cd.tab g0).isCodeTable, rfl, #[], more, rfl, by rw [Array.empty_append]; exact e⟩)
    · rcases keep c p g with k | ⟨q, hq, rfl⟩
      · exact ⟨p, k⟩
      · obtain ⟨more, e⟩ := tabs q hq
        exact ⟨_, e⟩
open Classical in
/-- the tables, known -/
noncomputable def tabH (cs : List (Addr × Addr)) (H : Hp) : Hp := fun b => if ∃ q ∈ cs, q.2 = b then some (.tbl #[]) else H b
theorem tabH_in {q : Addr × Addr} (h : q ∈ cs) : tabH cs H q.2 = some (.tbl #[]) := if_pos ⟨q, h, rfl⟩
theorem tabH_out (h : ¬ ∃ q ∈ cs, q.2 = b) : tabH cs H b = H b := if_neg h
theorem tabH_some {u : HO} (h : tabH cs H b = some u) : (u = .tbl #[] ∧ ∃ q ∈ cs, q.2 = b) ∨ (H b = some u ∧ ¬ ∃ q ∈ cs, q.2 = b) := by
  by_cases e : ∃ q ∈ cs, q.2 = b
  · obtain ⟨q, hq, rfl⟩ := e
    rw [tabH_in hq] at h
    cases h
    exact .inl ⟨rfl, q, hq, rfl⟩
  · rw [tabH_out e] at h
    exact .inr ⟨h, e⟩
theorem thinT_of {vs : List Value} {ns : List Int} (T : Top K mg mb s) (tb : PySem.W.TabsAt cs s.heap) (no : ∀ q ∈ cs, K.lookup q.2 = none) (g : s.heap.get? a = some { cls := .type "list", data := .seq vs.toArray }) (r : IntsAre vs ns) (l : ns.length ≤ sizeLine) : ∃ H, ThinT K s H cs ∧ HOk P w H s.heap ∧ SqL K H a (ns.map V.int) := by
  obtain ⟨H, t, ok, sq⟩ := thin_of (P := P) (w := w) T g r l
  have aT : ¬ ∃ q ∈ cs, q.2 = a := by
    rintro ⟨q, hq, rfl⟩
    have z := (tb q hq).2
    rw [g] at z
    have z2 : Data.seq vs.toArray _ = Data.fields #[] := congrArg Obj.data (Option.some.inj z)
    cases z2
  refine ⟨tabH cs H, ⟨fun c u h => ?_, fun c u h => ?_, tb, fun q hq => tabH_in hq⟩, fun c u h => ?_, ?_⟩
  · rcases tabH_some h with ⟨_, q, hq, rfl⟩ | ⟨h, _⟩
    · exact no q hq
    · exact (t c u h).1
  · rcases tabH_some h with h | ⟨h, _⟩
    · exact .inr h
    · exact .inl (t c u h).2
  · rcases tabH_some h with ⟨rfl, q, hq, rfl⟩ | ⟨h, _⟩
    · exact (tb q hq).2
    · obtain ⟨_, p, xs, v, n, rfl, _⟩ := t c u h
      exact ok c _ h
  · rcases sq with (e | ⟨o, e⟩) | e
    · exact .inl (.inl ((tabH_out aT).trans e))
    · exact .inl (.inr ⟨o, (tabH_out aT).trans e⟩)
    · exact .inr e
end
/-- the defs' tables at the top -/
def Tab0 (q : Program) (K : PySem.W.Frag) (h : Heap) : Prop := ∀ (x : Str) (d : DefRec) (c p : Addr), (recsOf q).find? (fun e => e.name == x) = some d → PySem.W.tabIn K x = some (c, p) → PySem.W.CodeHd h c p ∧ h.get? p = some (PySem.W.tabObj #[])
/-- what the law's def is, where cs are tables -/
structure LawT (P : Program) (w : World) (K : PySem.W.Frag) (mg : Str → Option Value) (h : Heap) (k n : Nat) (fa : Addr) (x : Str) : Prop where
  ex : ∃ (fd : FuncData) (cs : List (Addr × Addr)) (sp : Sp), PySem.W.TabsAt cs h ∧ (∀ q ∈ cs, K.lookup q.2 = none) ∧ (∀ (s : Shared) (u : Value), BindsTo s fd ⟨[u], []⟩ [(x, u)]) ∧
    (∀ base : Heap, K.In base → base.Ns mainGlobals mg → (∀ q ∈ cs, TabB base mg q.1 q.2) → FnG P w K mg base k fa fd [x] sp) ∧
    ∀ (H : Hp) (a : Addr) (ns : List Int), (∀ q ∈ cs, H q.2 = some (.tbl #[])) → ns.length ≤ n → SqL K H a (ns.map V.int) → sp [.ref a] H (fun v _ => v = .bl true) fun _ _ _ => False
/-- from the promise of the law's def to the walk of the law, with tables -/
theorem walk_gT {l : PySem.W.OpenLaw} {n k : Nat} {q : Program} {loose : List Str} {XP : (Str → Option Value) → Heap → Prop} {YP : World → Heap → Prop} {d : DefRec} {K : Params → PySem.W.Frag} {x : Str} (most : l.most = some n) (le : n ≤ sizeLine) (df : d.params.defaults = []) (room : Room k callerA)
    (kin : ∀ (w : World) (h : Heap), YP w h → (K w.params).In h)
    (F : ∀ (w : World) (mg : Str → Option Value) (fa : Addr) (h : Heap), (K w.params).In h → h.Ns mainGlobals mg → mg d.name = some (.ref fa) → Tab0 q (K w.params) h → LawT l.prog w (K w.params) mg h k n fa x) : PySem.W.WalkO q loose XP YP l.row.toRowW d [] (fun f vs => PySem.call f vs) :=
  Att.attach_call most df fun w _ s mg mb fa _ _ _ _ a vs ns G Y _ _ _ hf hs hi hl hg => by
    have T : Top (K w.params) mg mb s := ⟨kin w _ Y, G.T.g, G.T.b, G.T.builtins, G.T.nolimit, hg⟩
    obtain ⟨fd, cs, sp, tb, no, bd, R, holds⟩ := (F w mg fa _ T.kin T.own hf fun x d c p h1 h2 => PySem.W.tab_of G.T T.kin h1 h2).ex
    obtain ⟨H, t, ok, sq⟩ := thinT_of (P := l.prog) (w := w) T tb no hs hi (Nat.le_trans hl le)
    exact codeAny_mono ((R _ (t.kin T.kin) (t.ns T.own) (t.tabB T.own G.T.bmain)).run callerA [] s H ⟨[.ref a], []⟩ [.ref a] [.ref a] _ _ rfl room (T.envT t ok) (bd s (.ref a)) (.cons rfl .nil) (holds H a ns t.all hl sq)) fun r s' h => t.done ok h
/-- empty tables stand -/
theorem tabs_0 {T : List (Addr × Str)} {H : Hp} (h : ∀ q ∈ T, H q.1 = some (.tbl #[])) : Tabs T H := fun q hq => ⟨#[], h q hq, by
  first
    | exact trivial
    | exact fun _ z => nomatch z
    | simp [TriplesOk]
    | decide, fun _ _ z => nomatch z⟩
end Kh

set_option maxRecDepth 100000
set_option maxHeartbeats 8000000
namespace K31
open PySem PySem.Spec PyProof.Rows L2 Kh
open LamX (ExtN Tabs TabS TabB CodeO GivesTo)
theorem uniq_of {T : List (Addr × Str)} {p : Addr} {x : Str} (h : (T.map (·.1)).Nodup) (m : (p, x) ∈ T) : ∀ r ∈ T, r.1 = p → r.2 = x := by
  induction T with
  | nil => cases m
  | cons t T ih =>
    rw [List.map_cons, List.nodup_cons] at h
    intro r hr e
    rcases List.mem_cons.mp m with m1 | m1 <;> rcases List.mem_cons.mp hr with r1 | r1
    · rw [r1, ← m1]
    · exact absurd (List.mem_map.mpr ⟨r, r1, by rw [e, ← m1]⟩) h.1
    · exact absurd (List.mem_map.mpr ⟨_, m1, by rw [← e, r1]⟩) h.1
    · exact ih h.2 m1 r r1 e
theorem tab_mk {K : PySem.W.Frag} {x : Str} {f c p : Addr} {oc e : Value} {od dd : Option Addr} {fd : FuncData} {sl s2 : Array (Option Value)} {vs : Array Value} (h1 : PySem.W.nsIn K mainGlobals x = some (some (.ref f))) (h2 : K.lookup f = some ⟨oc, od, .func fd, sl⟩) (h3 : fd.code = .ref c) (h4 : K.lookup c = some ⟨e, dd, .fields vs, s2⟩) (h5 : vs[11]? = some (.ref p)) : PySem.W.tabIn K x = some (c, p) := by
  unfold PySem.W.tabIn
  rw [h1]
  dsimp only
  rw [h2]
  dsimp only
  rw [h3]
  dsimp only
  rw [h4]
  dsimp only
  rw [h5]
theorem kit_sub {K : PySem.W.Frag} {D R : Addr} (ci : PySem.W.isClsIn K R = true) (ty : PySem.W.typeIn K (.ref R) = some (.type "type")) (sb : PySem.W.subIn K (.ref D) (.ref R) = some true) : PySem.W.kitOne K (.ref D) (.ref R) = some true := by
  unfold PySem.W.kitOne
  split
  · rfl
  · show (if ((PySem.W.clsIn K R).isSome && PySem.W.typeIn K (.ref R) == some (.type "type")) = true then PySem.W.subIn K (.ref D) (.ref R) else none) = some true
    have ci : (PySem.W.clsIn K R).isSome = true := ci
    rw [ci, ty, if_pos (by simp)]
    exact sb
theorem all_mk {P q : Program} {w : World} {K : PySem.W.Frag} {h : Heap} {mg : Str → Option Value} {fa C CS CT CV CM f0 f1 f2 f3 f4 f5 f6 f7 f8 f9 f10 f11 f12 f13 f14 f15 f16 f17 f18 f19 f20 f21 f22 f23 f24 f25 f26 f27 f28 f29 f30 f31 f32 f33 f34 f35 cc26 pp26 cc27 pp27 cc29 pp29 cc30 pp30 : Addr} {tk0 tk1 : Tok} {dr26 dr27 dr29 dr30 : DefRec}
    {od0 od1 od2 od3 od4 od5 od6 od7 od8 od9 od10 od11 od12 od13 od14 od15 od16 od17 od18 od19 od20 od21 od22 od23 od24 od25 od26 od27 od28 od29 od30 od31 od32 od33 od34 od35 an0 an1 an2 an3 an4 an5 an6 an7 an8 an9 an10 an11 an12 an13 an14 an15 an16 an17 an18 an19 an20 an21 an22 an23 an24 an25 an26 an27 an28 an29 an30 an31 an32 an33 an34 an35 : Option Addr} {sl0 sl1 sl2 sl3 sl4 sl5 sl6 sl7 sl8 sl9 sl10 sl11 sl12 sl13 sl14 sl15 sl16 sl17 sl18 sl19 sl20 sl21 sl22 sl23 sl24 sl25 sl26 sl27 sl28 sl29 sl30 sl31 sl32 sl33 sl34 sl35 : Array (Option Value)} {oc0 oc1 oc2 oc3 oc4 oc5 oc6 oc7 oc8 oc9 oc10 oc11 oc12 oc13 oc14 oc15 oc16 oc17 oc18 oc19 oc20 oc21 oc22 oc23 oc24 oc25 oc26 oc27 oc28 oc29 oc30 oc31 oc32 oc33 oc34 oc35 kV0 kV1 kV2 kV3 kV4 kV5 kV6 kV7 kV8 kV9 kV10 kV11 kV12 kV13 kV14 kV15 kV16 kV17 kV18 kV19 kV20 kV21 kV22 kV23 kV24 kV25 kV26 kV27 kV28 kV29 kV30 kV31 kV32 kV33 kV34 kV35 dc0 dc1 dc2 dc3 dc4 dc5 dc6 dc7 dc8 dc9 dc10 dc11 dc12 dc13 dc14 dc15 dc16 dc17 dc18 dc19 dc20 dc21 dc22 dc23 dc24 dc25 dc26 dc27 dc28 dc29 dc30 dc31 dc32 dc33 dc34 dc35 pm0 pm1 pm2 pm3 pm4 pm5 pm6 pm7 pm8 pm9 pm10 pm11 pm12 pm13 pm14 pm15 pm16 pm17 pm18 pm19 pm20 pm21 pm22 pm23 pm24 pm25 pm26 pm27 pm28 pm29 pm30 pm31 pm32 pm33 pm34 pm35 ct0 ct1 ct2 ct3 ct4 ct5 ct6 ct7 ct8 ct9 ct10 ct11 ct12 ct13 ct14 ct15 ct16 ct17 ct18 ct19 ct20 ct21 ct22 ct23 ct24 ct25 ct26 ct27 ct28 ct29 ct30 ct31 ct32 ct33 ct34 ct35 cd0 cd1 cd2 cd3 cd4 cd5 cd6 cd7 cd8 cd9 cd10 cd11 cd12 cd13 cd14 cd15 cd16 cd17 cd18 cd19 cd20 cd21 cd22 cd23 cd24 cd25 cd28 cd31 cd32 cd33 cd34 cd35 : Value}
    {ue26 ue27 ue29 ue30 : Value} {ud26 ud27 ud29 ud30 : Option Addr} {uv26 uv27 uv29 uv30 : Array Value} {us26 us27 us29 us30 : Array (Option Value)}
    {xnT xnV xnM xqT xqV xqM : Str} {xNT xNV xNM : Addr} {xbT xbV xbM xmT xmV xmM xuT xuV xuM : List Value} {xsT xsV xsM : List Str} {xaT xaV xaM : Bool} {xcT xcV xcM : Option Bool} {xdT xdV xdM : Option Addr} {x0T x0V x0M x1T x1V x1M x2T x2V x2M x3T x3V x3M x5T x5V x5M : Option Value}
    (X : K.In h) (G : h.Ns mainGlobals mg) (hfa : mg "law" = some (.ref fa)) (T0 : Tab0 q K h)
    (a0 : PySem.W.nsIn K mainGlobals "is_integer" = some (some (.ref f0)))
    (l0 : K.lookup f0 = some ⟨oc0, od0, .func (PySem.W.fnOf "is_integer" "is_integer" (defArgs is_integer_s) (defBody is_integer_s) (defScope is_integer_s) .none kV0 dc0 pm0 an0 cd0 ct0), sl0⟩)
    (c0 : PySem.W.codeIn K cd0 "is_integer" = true)
    (k0 : PySem.W.keepIn K (.ref f0) = true)
    (a1 : PySem.W.nsIn K mainGlobals "is_count" = some (some (.ref f1)))
    (l1 : K.lookup f1 = some ⟨oc1, od1, .func (PySem.W.fnOf "is_count" "is_count" (defArgs is_count_s) (defBody is_count_s) (defScope is_count_s) .none kV1 dc1 pm1 an1 cd1 ct1), sl1⟩)
    (c1 : PySem.W.codeIn K cd1 "is_count" = true)
    (k1 : PySem.W.keepIn K (.ref f1) = true)
    (a2 : PySem.W.nsIn K mainGlobals "is_list" = some (some (.ref f2)))
    (l2 : K.lookup f2 = some ⟨oc2, od2, .func (PySem.W.fnOf "is_list" "is_list" (defArgs is_list_s) (defBody is_list_s) (defScope is_list_s) .none kV2 dc2 pm2 an2 cd2 ct2), sl2⟩)
    (c2 : PySem.W.codeIn K cd2 "is_list" = true)
    (k2 : PySem.W.keepIn K (.ref f2) = true)
    (a3 : PySem.W.nsIn K mainGlobals "is_number_below" = some (some (.ref f3)))
    (l3 : K.lookup f3 = some ⟨oc3, od3, .func (PySem.W.fnOf "is_number_below" "is_number_below" (defArgs is_number_below_s) (defBody is_number_below_s) (defScope is_number_below_s) .none kV3 dc3 pm3 an3 cd3 ct3), sl3⟩)
    (c3 : PySem.W.codeIn K cd3 "is_number_below" = true)
    (k3 : PySem.W.keepIn K (.ref f3) = true)
    (a4 : PySem.W.nsIn K mainGlobals "is_row" = some (some (.ref f4)))
    (l4 : K.lookup f4 = some ⟨oc4, od4, .func (PySem.W.fnOf "is_row" "is_row" (defArgs is_row_s) (defBody is_row_s) (defScope is_row_s) .none kV4 dc4 pm4 an4 cd4 ct4), sl4⟩)
    (c4 : PySem.W.codeIn K cd4 "is_row" = true)
    (k4 : PySem.W.keepIn K (.ref f4) = true)
    (a5 : PySem.W.findIn K (.ref C) "__init__" = some (some (.ref f5)))
    (i5 : PySem.W.isFn K (.ref f5) = true)
    (l5 : K.lookup f5 = some ⟨oc5, od5, .func (PySem.W.fnOf "__init__" "Table.__init__" (defArgs Table_init_s) (defBody Table_init_s) (defScope Table_init_s) .none kV5 dc5 pm5 an5 cd5 ct5), sl5⟩)
    (c5 : PySem.W.codeIn K cd5 "Table.__init__" = true)
    (k5 : PySem.W.keepIn K (.ref f5) = true)
    (a6 : PySem.W.findIn K (.ref C) "rows" = some (some (.ref f6)))
    (i6 : PySem.W.isFn K (.ref f6) = true)
    (l6 : K.lookup f6 = some ⟨oc6, od6, .func (PySem.W.fnOf "rows" "Table.rows" (defArgs Table_rows_s) (defBody Table_rows_s) (defScope Table_rows_s) .none kV6 dc6 pm6 an6 cd6 ct6), sl6⟩)
    (c6 : PySem.W.codeIn K cd6 "Table.rows" = true)
    (k6 : PySem.W.keepIn K (.ref f6) = true)
    (a7 : PySem.W.findIn K (.ref C) "at" = some (some (.ref f7)))
    (i7 : PySem.W.isFn K (.ref f7) = true)
    (l7 : K.lookup f7 = some ⟨oc7, od7, .func (PySem.W.fnOf "at" "Table.at" (defArgs Table_at_s) (defBody Table_at_s) (defScope Table_at_s) .none kV7 dc7 pm7 an7 cd7 ct7), sl7⟩)
    (c7 : PySem.W.codeIn K cd7 "Table.at" = true)
    (k7 : PySem.W.keepIn K (.ref f7) = true)
    (a8 : PySem.W.findIn K (.ref C) "__len__" = some (some (.ref f8)))
    (i8 : PySem.W.isFn K (.ref f8) = true)
    (l8 : K.lookup f8 = some ⟨oc8, od8, .func (PySem.W.fnOf "__len__" "Table.__len__" (defArgs Table_len_s) (defBody Table_len_s) (defScope Table_len_s) .none kV8 dc8 pm8 an8 cd8 ct8), sl8⟩)
    (c8 : PySem.W.codeIn K cd8 "Table.__len__" = true)
    (k8 : PySem.W.keepIn K (.ref f8) = true)
    (a9 : PySem.W.findIn K (.ref C) "__eq__" = some (some (.ref f9)))
    (i9 : PySem.W.isFn K (.ref f9) = true)
    (l9 : K.lookup f9 = some ⟨oc9, od9, .func (PySem.W.fnOf "__eq__" "Table.__eq__" (defArgs Table_eq_s) (defBody Table_eq_s) (defScope Table_eq_s) .none kV9 dc9 pm9 an9 cd9 ct9), sl9⟩)
    (c9 : PySem.W.codeIn K cd9 "Table.__eq__" = true)
    (k9 : PySem.W.keepIn K (.ref f9) = true)
    (a10 : PySem.W.findIn K (.ref C) "__repr__" = some (some (.ref f10)))
    (i10 : PySem.W.isFn K (.ref f10) = true)
    (l10 : K.lookup f10 = some ⟨oc10, od10, .func (PySem.W.fnOf "__repr__" "Table.__repr__" (defArgs Table_repr_s) (defBody Table_repr_s) (defScope Table_repr_s) .none kV10 dc10 pm10 an10 cd10 ct10), sl10⟩)
    (c10 : PySem.W.codeIn K cd10 "Table.__repr__" = true)
    (k10 : PySem.W.keepIn K (.ref f10) = true)
    (a11 : PySem.W.nsIn K mainGlobals "check_value" = some (some (.ref f11)))
    (l11 : K.lookup f11 = some ⟨oc11, od11, .func (PySem.W.fnOf "check_value" "check_value" (defArgs check_value_s) (defBody check_value_s) (defScope check_value_s) .none kV11 dc11 pm11 an11 cd11 ct11), sl11⟩)
    (c11 : PySem.W.codeIn K cd11 "check_value" = true)
    (k11 : PySem.W.keepIn K (.ref f11) = true)
    (a12 : PySem.W.nsIn K mainGlobals "melted" = some (some (.ref f12)))
    (l12 : K.lookup f12 = some ⟨oc12, od12, .func (PySem.W.fnOf "melted" "melted" (defArgs melted_s) (defBody melted_s) (defScope melted_s) .none kV12 dc12 pm12 an12 cd12 ct12), sl12⟩)
    (c12 : PySem.W.codeIn K cd12 "melted" = true)
    (k12 : PySem.W.keepIn K (.ref f12) = true)
    (a13 : PySem.W.nsIn K mainGlobals "is_melt" = some (some (.ref f13)))
    (l13 : K.lookup f13 = some ⟨oc13, od13, .func (PySem.W.fnOf "is_melt" "is_melt" (defArgs is_melt_s) (defBody is_melt_s) (defScope is_melt_s) .none kV13 dc13 pm13 an13 cd13 ct13), sl13⟩)
    (c13 : PySem.W.codeIn K cd13 "is_melt" = true)
    (k13 : PySem.W.keepIn K (.ref f13) = true)
    (a14 : PySem.W.nsIn K mainGlobals "result_of" = some (some (.ref f14)))
    (l14 : K.lookup f14 = some ⟨oc14, od14, .func (PySem.W.fnOf "result_of" "result_of" (defArgs result_of_s) (defBody result_of_s) (defScope result_of_s) .none kV14 dc14 pm14 an14 cd14 ct14), sl14⟩)
    (c14 : PySem.W.codeIn K cd14 "result_of" = true)
    (k14 : PySem.W.keepIn K (.ref f14) = true)
    (a15 : PySem.W.nsIn K mainGlobals "result" = some (some (.ref f15)))
    (l15 : K.lookup f15 = some ⟨oc15, od15, .func (PySem.W.fnOf "result" "result" (defArgs result_s) (defBody result_s) (defScope result_s) .none kV15 dc15 pm15 an15 cd15 ct15), sl15⟩)
    (c15 : PySem.W.codeIn K cd15 "result" = true)
    (k15 : PySem.W.keepIn K (.ref f15) = true)
    (a16 : PySem.W.nsIn K mainGlobals "_law_pot" = some (some (.ref f16)))
    (l16 : K.lookup f16 = some ⟨oc16, od16, .func (PySem.W.fnOf "_law_pot" "_law_pot" (defArgs _law_pot_s) (defBody _law_pot_s) (defScope _law_pot_s) .none kV16 dc16 pm16 an16 cd16 ct16), sl16⟩)
    (c16 : PySem.W.codeIn K cd16 "_law_pot" = true)
    (k16 : PySem.W.keepIn K (.ref f16) = true)
    (a17 : PySem.W.nsIn K mainGlobals "_law_draw" = some (some (.ref f17)))
    (l17 : K.lookup f17 = some ⟨oc17, od17, .func (PySem.W.fnOf "_law_draw" "_law_draw" (defArgs _law_draw_s) (defBody _law_draw_s) (defScope _law_draw_s) .none kV17 dc17 pm17 an17 cd17 ct17), sl17⟩)
    (c17 : PySem.W.codeIn K cd17 "_law_draw" = true)
    (k17 : PySem.W.keepIn K (.ref f17) = true)
    (a18 : PySem.W.nsIn K mainGlobals "_law_pick" = some (some (.ref f18)))
    (l18 : K.lookup f18 = some ⟨oc18, od18, .func (PySem.W.fnOf "_law_pick" "_law_pick" (defArgs _law_pick_s) (defBody _law_pick_s) (defScope _law_pick_s) .none kV18 dc18 pm18 an18 cd18 ct18), sl18⟩)
    (c18 : PySem.W.codeIn K cd18 "_law_pick" = true)
    (k18 : PySem.W.keepIn K (.ref f18) = true)
    (a19 : PySem.W.nsIn K mainGlobals "_law_mixed" = some (some (.ref f19)))
    (l19 : K.lookup f19 = some ⟨oc19, od19, .func (PySem.W.fnOf "_law_mixed" "_law_mixed" (defArgs _law_mixed_s) (defBody _law_mixed_s) (defScope _law_mixed_s) .none kV19 dc19 pm19 an19 cd19 ct19), sl19⟩)
    (c19 : PySem.W.codeIn K cd19 "_law_mixed" = true)
    (k19 : PySem.W.keepIn K (.ref f19) = true)
    (a20 : PySem.W.nsIn K mainGlobals "_law_lots" = some (some (.ref f20)))
    (l20 : K.lookup f20 = some ⟨oc20, od20, .func (PySem.W.fnOf "_law_lots" "_law_lots" (defArgs _law_lots_s) (defBody _law_lots_s) (defScope _law_lots_s) .none kV20 dc20 pm20 an20 cd20 ct20), sl20⟩)
    (c20 : PySem.W.codeIn K cd20 "_law_lots" = true)
    (k20 : PySem.W.keepIn K (.ref f20) = true)
    (a21 : PySem.W.nsIn K mainGlobals "_law_melting" = some (some (.ref f21)))
    (l21 : K.lookup f21 = some ⟨oc21, od21, .func (PySem.W.fnOf "_law_melting" "_law_melting" (defArgs _law_melting_s) (defBody _law_melting_s) (defScope _law_melting_s) .none kV21 dc21 pm21 an21 cd21 ct21), sl21⟩)
    (c21 : PySem.W.codeIn K cd21 "_law_melting" = true)
    (k21 : PySem.W.keepIn K (.ref f21) = true)
    (a22 : PySem.W.nsIn K mainGlobals "_law_table" = some (some (.ref f22)))
    (l22 : K.lookup f22 = some ⟨oc22, od22, .func (PySem.W.fnOf "_law_table" "_law_table" (defArgs _law_table_s) (defBody _law_table_s) (defScope _law_table_s) .none kV22 dc22 pm22 an22 cd22 ct22), sl22⟩)
    (c22 : PySem.W.codeIn K cd22 "_law_table" = true)
    (k22 : PySem.W.keepIn K (.ref f22) = true)
    (a23 : PySem.W.nsIn K mainGlobals "_law_result" = some (some (.ref f23)))
    (l23 : K.lookup f23 = some ⟨oc23, od23, .func (PySem.W.fnOf "_law_result" "_law_result" (defArgs _law_result_s) (defBody _law_result_s) (defScope _law_result_s) .none kV23 dc23 pm23 an23 cd23 ct23), sl23⟩)
    (c23 : PySem.W.codeIn K cd23 "_law_result" = true)
    (k23 : PySem.W.keepIn K (.ref f23) = true)
    (a24 : PySem.W.nsIn K mainGlobals "_law_grouped" = some (some (.ref f24)))
    (l24 : K.lookup f24 = some ⟨oc24, od24, .func (PySem.W.fnOf "_law_grouped" "_law_grouped" (defArgs _law_grouped_s) (defBody _law_grouped_s) (defScope _law_grouped_s) .none kV24 dc24 pm24 an24 cd24 ct24), sl24⟩)
    (c24 : PySem.W.codeIn K cd24 "_law_grouped" = true)
    (k24 : PySem.W.keepIn K (.ref f24) = true)
    (a25 : PySem.W.nsIn K mainGlobals "_law_heard" = some (some (.ref f25)))
    (l25 : K.lookup f25 = some ⟨oc25, od25, .func (PySem.W.fnOf "_law_heard" "_law_heard" (defArgs _law_heard_s) (defBody _law_heard_s) (defScope _law_heard_s) .none kV25 dc25 pm25 an25 cd25 ct25), sl25⟩)
    (c25 : PySem.W.codeIn K cd25 "_law_heard" = true)
    (k25 : PySem.W.keepIn K (.ref f25) = true)
    (a26 : PySem.W.nsIn K mainGlobals "_law_told_right" = some (some (.ref f26)))
    (l26 : K.lookup f26 = some ⟨oc26, od26, .func (PySem.W.fnOf "_law_told_right" "_law_told_right" (defArgs _law_told_right_s) (defBody _law_told_right_s) (defScope _law_told_right_s) .none kV26 dc26 pm26 an26 (.ref cc26) ct26), sl26⟩)
    (c26 : PySem.W.codeIn K (.ref cc26) "_law_told_right" = true)
    (k26 : PySem.W.keepIn K (.ref f26) = true)
    (a27 : PySem.W.nsIn K mainGlobals "_law_refused_right" = some (some (.ref f27)))
    (l27 : K.lookup f27 = some ⟨oc27, od27, .func (PySem.W.fnOf "_law_refused_right" "_law_refused_right" (defArgs _law_refused_right_s) (defBody _law_refused_right_s) (defScope _law_refused_right_s) .none kV27 dc27 pm27 an27 (.ref cc27) ct27), sl27⟩)
    (c27 : PySem.W.codeIn K (.ref cc27) "_law_refused_right" = true)
    (k27 : PySem.W.keepIn K (.ref f27) = true)
    (a28 : PySem.W.nsIn K mainGlobals "_law_is_melt" = some (some (.ref f28)))
    (l28 : K.lookup f28 = some ⟨oc28, od28, .func (PySem.W.fnOf "_law_is_melt" "_law_is_melt" (defArgs _law_is_melt_s) (defBody _law_is_melt_s) (defScope _law_is_melt_s) .none kV28 dc28 pm28 an28 cd28 ct28), sl28⟩)
    (c28 : PySem.W.codeIn K cd28 "_law_is_melt" = true)
    (k28 : PySem.W.keepIn K (.ref f28) = true)
    (a29 : PySem.W.nsIn K mainGlobals "_law_melts_right" = some (some (.ref f29)))
    (l29 : K.lookup f29 = some ⟨oc29, od29, .func (PySem.W.fnOf "_law_melts_right" "_law_melts_right" (defArgs _law_melts_right_s) (defBody _law_melts_right_s) (defScope _law_melts_right_s) .none kV29 dc29 pm29 an29 (.ref cc29) ct29), sl29⟩)
    (c29 : PySem.W.codeIn K (.ref cc29) "_law_melts_right" = true)
    (k29 : PySem.W.keepIn K (.ref f29) = true)
    (a30 : PySem.W.nsIn K mainGlobals "_law_many_right" = some (some (.ref f30)))
    (l30 : K.lookup f30 = some ⟨oc30, od30, .func (PySem.W.fnOf "_law_many_right" "_law_many_right" (defArgs _law_many_right_s) (defBody _law_many_right_s) (defScope _law_many_right_s) .none kV30 dc30 pm30 an30 (.ref cc30) ct30), sl30⟩)
    (c30 : PySem.W.codeIn K (.ref cc30) "_law_many_right" = true)
    (k30 : PySem.W.keepIn K (.ref f30) = true)
    (a31 : PySem.W.nsIn K mainGlobals "_law_right" = some (some (.ref f31)))
    (l31 : K.lookup f31 = some ⟨oc31, od31, .func (PySem.W.fnOf "_law_right" "_law_right" (defArgs _law_right_s) (defBody _law_right_s) (defScope _law_right_s) .none kV31 dc31 pm31 an31 cd31 ct31), sl31⟩)
    (c31 : PySem.W.codeIn K cd31 "_law_right" = true)
    (k31 : PySem.W.keepIn K (.ref f31) = true)
    (a32 : PySem.W.nsIn K mainGlobals "law" = some (some (.ref f32)))
    (l32 : K.lookup f32 = some ⟨oc32, od32, .func (PySem.W.fnOf "law" "law" (defArgs law_s) (defBody law_s) (defScope law_s) .none kV32 dc32 pm32 an32 cd32 ct32), sl32⟩)
    (c32 : PySem.W.codeIn K cd32 "law" = true)
    (k32 : PySem.W.keepIn K (.ref f32) = true)
    (a33 : PySem.W.findIn K (.ref CT) "__init__" = some (some (.ref f33)))
    (y33 : PySem.W.typeIn K (.ref f33) = some (.type "function"))
    (l33 : K.lookup f33 = some ⟨oc33, od33, .func (PySem.W.fnOf "__init__" "InvalidTable.__init__" (defArgs InvalidTable_init_s) (defBody InvalidTable_init_s) (defScope InvalidTable_init_s) .none kV33 dc33 pm33 an33 cd33 ct33), sl33⟩)
    (c33 : PySem.W.codeIn K cd33 "InvalidTable.__init__" = true)
    (k33 : PySem.W.keepIn K (.ref f33) = true)
    (a34 : PySem.W.findIn K (.ref CV) "__init__" = some (some (.ref f34)))
    (y34 : PySem.W.typeIn K (.ref f34) = some (.type "function"))
    (l34 : K.lookup f34 = some ⟨oc34, od34, .func (PySem.W.fnOf "__init__" "InvalidValue.__init__" (defArgs InvalidValue_init_s) (defBody InvalidValue_init_s) (defScope InvalidValue_init_s) .none kV34 dc34 pm34 an34 cd34 ct34), sl34⟩)
    (c34 : PySem.W.codeIn K cd34 "InvalidValue.__init__" = true)
    (k34 : PySem.W.keepIn K (.ref f34) = true)
    (a35 : PySem.W.findIn K (.ref CM) "__init__" = some (some (.ref f35)))
    (y35 : PySem.W.typeIn K (.ref f35) = some (.type "function"))
    (l35 : K.lookup f35 = some ⟨oc35, od35, .func (PySem.W.fnOf "__init__" "InvalidMelt.__init__" (defArgs InvalidMelt_init_s) (defBody InvalidMelt_init_s) (defScope InvalidMelt_init_s) .none kV35 dc35 pm35 an35 cd35 ct35), sl35⟩)
    (c35 : PySem.W.codeIn K cd35 "InvalidMelt.__init__" = true)
    (k35 : PySem.W.keepIn K (.ref f35) = true)
    (u26 : K.lookup cc26 = some ⟨ue26, ud26, .fields uv26, us26⟩)
    (up26 : uv26[11]? = some (.ref pp26))
    (no26 : K.lookup pp26 = none)
    (rc26 : (recsOf q).find? (fun e => e.name == ("_law_told_right" : Str)) = some dr26)
    (u27 : K.lookup cc27 = some ⟨ue27, ud27, .fields uv27, us27⟩)
    (up27 : uv27[11]? = some (.ref pp27))
    (no27 : K.lookup pp27 = none)
    (rc27 : (recsOf q).find? (fun e => e.name == ("_law_refused_right" : Str)) = some dr27)
    (u29 : K.lookup cc29 = some ⟨ue29, ud29, .fields uv29, us29⟩)
    (up29 : uv29[11]? = some (.ref pp29))
    (no29 : K.lookup pp29 = none)
    (rc29 : (recsOf q).find? (fun e => e.name == ("_law_melts_right" : Str)) = some dr29)
    (u30 : K.lookup cc30 = some ⟨ue30, ud30, .fields uv30, us30⟩)
    (up30 : uv30[11]? = some (.ref pp30))
    (no30 : K.lookup pp30 = none)
    (rc30 : (recsOf q).find? (fun e => e.name == ("_law_many_right" : Str)) = some dr30)
    (nd : [pp26, pp27, pp29, pp30].Nodup)
    (aC : PySem.W.nsIn K mainGlobals "Table" = some (some (.ref C)))
    (pg : PySem.W.plainGet K C Str.empty = true)
    (hd : PySem.W.hasDictIn K C = true)
    (po : PySem.W.plainOver K C = true)
    (sa : PySem.W.findIn K (.ref C) "__setattr__" = some (some (.builtin "object.__setattr__")))
    (mk : PySem.W.makesIn K C = true)
    (kc : PySem.W.keepIn K (.ref C) = true)
    (n1 : PySem.W.findIn K (.ref C) "_rows" = some none)
    (dha : PySem.W.findIn K (.ref C) "__class__" = some (some (.builtin "object.__class__")))
    (dhn : PySem.W.specialIn K (.builtin "object.__class__") "__get__" = some (some (.builtin "getset_descriptor.__get__")))
    (dht : PySem.W.takesIn K (.builtin "object.__class__") = some true)
    (dhm : PySem.W.mroIn K C (.type "object") = some true)
    (dow : PySem.W.kitOne K (.ref C) (.ref C) = some true)
    (dne : PySem.W.findIn K (.ref C) "__ne__" = some (some (.builtin "object.__ne__")))
    (dob : PySem.W.subIn K (.ref C) (.type "object") = some true)
    (oNoneType : PySem.W.kitOne K (.type "NoneType") (.ref C) = some false)
    (qNoneType : PySem.W.notFirst K C (.type "NoneType") = true)
    (obool : PySem.W.kitOne K (.type "bool") (.ref C) = some false)
    (qbool : PySem.W.notFirst K C (.type "bool") = true)
    (oint : PySem.W.kitOne K (.type "int") (.ref C) = some false)
    (qint : PySem.W.notFirst K C (.type "int") = true)
    (ostr : PySem.W.kitOne K (.type "str") (.ref C) = some false)
    (qstr : PySem.W.notFirst K C (.type "str") = true)
    (olist : PySem.W.kitOne K (.type "list") (.ref C) = some false)
    (qlist : PySem.W.notFirst K C (.type "list") = true)
    (otuple : PySem.W.kitOne K (.type "tuple") (.ref C) = some false)
    (qtuple : PySem.W.notFirst K C (.type "tuple") = true)
    (aCS : PySem.W.nsIn K mainGlobals "ShelfError" = some (some (.ref CS)))
    (ciS : PySem.W.isClsIn K CS = true)
    (tyS : PySem.W.typeIn K (.ref CS) = some (.type "type"))
    (aCT : PySem.W.nsIn K mainGlobals "InvalidTable" = some (some (.ref CT)))
    (xlT : K.lookup CT = some (excClassObj xnT xqT CT xNT xbT xmT true xsT xuT xaT xcT xdT x0T x1T x2T x3T x5T "ValueError.__new__"))
    (xrT : PySem.HandSPX.refsVE xmT = true)
    (xsaT : PySem.W.findIn K (.ref CT) "__setattr__" = some (some (.builtin "object.__setattr__")))
    (xeT : PySem.W.subIn K (.ref CT) (.type "BaseException") = some true)
    (xtT : PySem.W.typeIn K (.ref CT) = some (.type "type"))
    (xkT : PySem.W.keepIn K (.ref CT) = true)
    (xgT : PySem.W.findIn K (.ref CT) "__getattribute__" = some (some (.builtin "BaseException.__getattribute__")))
    (xhT : PySem.W.findIn K (.ref CT) "__getattr__" = some none)
    (xiT : PySem.W.hasDictIn K CT = true)
    (xnoT : PySem.W.findIn K (.ref CT) "position" = some none)
    (xcaT : PySem.W.findIn K (.ref CT) "__class__" = some (some (.builtin "object.__class__")))
    (xcmT : PySem.W.mroIn K CT (.type "object") = some true)
    (xccT : PySem.W.isClsIn K CT = true)
    (xssT : PySem.W.subIn K (.ref CT) (.ref CS) = some true)
    (xs1T : PySem.W.subIn K (.ref CT) (.ref CT) = some true)
    (aCV : PySem.W.nsIn K mainGlobals "InvalidValue" = some (some (.ref CV)))
    (xlV : K.lookup CV = some (excClassObj xnV xqV CV xNV xbV xmV true xsV xuV xaV xcV xdV x0V x1V x2V x3V x5V "ValueError.__new__"))
    (xrV : PySem.HandSPX.refsVE xmV = true)
    (xsaV : PySem.W.findIn K (.ref CV) "__setattr__" = some (some (.builtin "object.__setattr__")))
    (xeV : PySem.W.subIn K (.ref CV) (.type "BaseException") = some true)
    (xtV : PySem.W.typeIn K (.ref CV) = some (.type "type"))
    (xkV : PySem.W.keepIn K (.ref CV) = true)
    (xgV : PySem.W.findIn K (.ref CV) "__getattribute__" = some (some (.builtin "BaseException.__getattribute__")))
    (xhV : PySem.W.findIn K (.ref CV) "__getattr__" = some none)
    (xiV : PySem.W.hasDictIn K CV = true)
    (xnoV : PySem.W.findIn K (.ref CV) "value" = some none)
    (xcaV : PySem.W.findIn K (.ref CV) "__class__" = some (some (.builtin "object.__class__")))
    (xcmV : PySem.W.mroIn K CV (.type "object") = some true)
    (xccV : PySem.W.isClsIn K CV = true)
    (xssV : PySem.W.subIn K (.ref CV) (.ref CS) = some true)
    (xs1V : PySem.W.subIn K (.ref CV) (.ref CV) = some true)
    (aCM : PySem.W.nsIn K mainGlobals "InvalidMelt" = some (some (.ref CM)))
    (xlM : K.lookup CM = some (excClassObj xnM xqM CM xNM xbM xmM true xsM xuM xaM xcM xdM x0M x1M x2M x3M x5M "ValueError.__new__"))
    (xrM : PySem.HandSPX.refsVE xmM = true)
    (xsaM : PySem.W.findIn K (.ref CM) "__setattr__" = some (some (.builtin "object.__setattr__")))
    (xeM : PySem.W.subIn K (.ref CM) (.type "BaseException") = some true)
    (xtM : PySem.W.typeIn K (.ref CM) = some (.type "type"))
    (xkM : PySem.W.keepIn K (.ref CM) = true)
    (xgM : PySem.W.findIn K (.ref CM) "__getattribute__" = some (some (.builtin "BaseException.__getattribute__")))
    (xhM : PySem.W.findIn K (.ref CM) "__getattr__" = some none)
    (xiM : PySem.W.hasDictIn K CM = true)
    (xnoM : PySem.W.findIn K (.ref CM) "value" = some none)
    (xcaM : PySem.W.findIn K (.ref CM) "__class__" = some (some (.builtin "object.__class__")))
    (xcmM : PySem.W.mroIn K CM (.type "object") = some true)
    (xccM : PySem.W.isClsIn K CM = true)
    (xssM : PySem.W.subIn K (.ref CM) (.ref CS) = some true)
    (xs1M : PySem.W.subIn K (.ref CM) (.ref CM) = some true)
    (sbVT : PySem.W.subIn K (.ref CV) (.ref CT) = some false)
    (sbVM : PySem.W.subIn K (.ref CV) (.ref CM) = some false)
    (sbMT : PySem.W.subIn K (.ref CM) (.ref CT) = some false)
    (vMOST_VALUES : PySem.W.nsIn K mainGlobals "MOST_VALUES" = some (some (.int 7 tk0)))
    (vMOST_MELTED : PySem.W.nsIn K mainGlobals "MOST_MELTED" = some (some (.int 40 tk1)))
    (zisinstance : PySem.W.nsIn K mainGlobals "isinstance" = some none)
    (zint : PySem.W.nsIn K mainGlobals "int" = some none)
    (zbool : PySem.W.nsIn K mainGlobals "bool" = some none)
    (zlist : PySem.W.nsIn K mainGlobals "list" = some none)
    (ztuple : PySem.W.nsIn K mainGlobals "tuple" = some none)
    (zall : PySem.W.nsIn K mainGlobals "all" = some none)
    (zlen : PySem.W.nsIn K mainGlobals "len" = some none)
    (zenumerate : PySem.W.nsIn K mainGlobals "enumerate" = some none)
    (zabs : PySem.W.nsIn K mainGlobals "abs" = some none)
    (zmax : PySem.W.nsIn K mainGlobals "max" = some none)
    (zdivmod : PySem.W.nsIn K mainGlobals "divmod" = some none)
    (zrange : PySem.W.nsIn K mainGlobals "range" = some none)
    (zsorted : PySem.W.nsIn K mainGlobals "sorted" = some none)
    (zset : PySem.W.nsIn K mainGlobals "set" = some none)
    (zrepr : PySem.W.nsIn K mainGlobals "repr" = some none)
    (zany : PySem.W.nsIn K mainGlobals "any" = some none)
    (zmin : PySem.W.nsIn K mainGlobals "min" = some none)
    : LawT P w K mg h 51 63 fa "_law_script" := by
  have e : fa = f32 := by
    have q := hfa.symm.trans (PySem.W.mg_of X G a32)
    injection q with q
    injection q
  rw [e]
  have F0 := fun_mk (x := "is_integer") (qual := "is_integer") (st := is_integer_s) l0 c0 k0
  have F1 := fun_mk (x := "is_count") (qual := "is_count") (st := is_count_s) l1 c1 k1
  have F2 := fun_mk (x := "is_list") (qual := "is_list") (st := is_list_s) l2 c2 k2
  have F3 := fun_mk (x := "is_number_below") (qual := "is_number_below") (st := is_number_below_s) l3 c3 k3
  have F4 := fun_mk (x := "is_row") (qual := "is_row") (st := is_row_s) l4 c4 k4
  have F5 := fun_mk (x := "__init__") (qual := "Table.__init__") (st := Table_init_s) l5 c5 k5
  have F6 := fun_mk (x := "rows") (qual := "Table.rows") (st := Table_rows_s) l6 c6 k6
  have F7 := fun_mk (x := "at") (qual := "Table.at") (st := Table_at_s) l7 c7 k7
  have F8 := fun_mk (x := "__len__") (qual := "Table.__len__") (st := Table_len_s) l8 c8 k8
  have F9 := fun_mk (x := "__eq__") (qual := "Table.__eq__") (st := Table_eq_s) l9 c9 k9
  have F10 := fun_mk (x := "__repr__") (qual := "Table.__repr__") (st := Table_repr_s) l10 c10 k10
  have F11 := fun_mk (x := "check_value") (qual := "check_value") (st := check_value_s) l11 c11 k11
  have F12 := fun_mk (x := "melted") (qual := "melted") (st := melted_s) l12 c12 k12
  have F13 := fun_mk (x := "is_melt") (qual := "is_melt") (st := is_melt_s) l13 c13 k13
  have F14 := fun_mk (x := "result_of") (qual := "result_of") (st := result_of_s) l14 c14 k14
  have F15 := fun_mk (x := "result") (qual := "result") (st := result_s) l15 c15 k15
  have F16 := fun_mk (x := "_law_pot") (qual := "_law_pot") (st := _law_pot_s) l16 c16 k16
  have F17 := fun_mk (x := "_law_draw") (qual := "_law_draw") (st := _law_draw_s) l17 c17 k17
  have F18 := fun_mk (x := "_law_pick") (qual := "_law_pick") (st := _law_pick_s) l18 c18 k18
  have F19 := fun_mk (x := "_law_mixed") (qual := "_law_mixed") (st := _law_mixed_s) l19 c19 k19
  have F20 := fun_mk (x := "_law_lots") (qual := "_law_lots") (st := _law_lots_s) l20 c20 k20
  have F21 := fun_mk (x := "_law_melting") (qual := "_law_melting") (st := _law_melting_s) l21 c21 k21
  have F22 := fun_mk (x := "_law_table") (qual := "_law_table") (st := _law_table_s) l22 c22 k22
  have F23 := fun_mk (x := "_law_result") (qual := "_law_result") (st := _law_result_s) l23 c23 k23
  have F24 := fun_mk (x := "_law_grouped") (qual := "_law_grouped") (st := _law_grouped_s) l24 c24 k24
  have F25 := fun_mk (x := "_law_heard") (qual := "_law_heard") (st := _law_heard_s) l25 c25 k25
  have F26 := fun_mk (x := "_law_told_right") (qual := "_law_told_right") (st := _law_told_right_s) l26 c26 k26
  have F27 := fun_mk (x := "_law_refused_right") (qual := "_law_refused_right") (st := _law_refused_right_s) l27 c27 k27
  have F28 := fun_mk (x := "_law_is_melt") (qual := "_law_is_melt") (st := _law_is_melt_s) l28 c28 k28
  have F29 := fun_mk (x := "_law_melts_right") (qual := "_law_melts_right") (st := _law_melts_right_s) l29 c29 k29
  have F30 := fun_mk (x := "_law_many_right") (qual := "_law_many_right") (st := _law_many_right_s) l30 c30 k30
  have F31 := fun_mk (x := "_law_right") (qual := "_law_right") (st := _law_right_s) l31 c31 k31
  have F32 := fun_mk (x := "law") (qual := "law") (st := law_s) l32 c32 k32
  have F33 := fun_mk (x := "__init__") (qual := "InvalidTable.__init__") (st := InvalidTable_init_s) l33 c33 k33
  have F34 := fun_mk (x := "__init__") (qual := "InvalidValue.__init__") (st := InvalidValue_init_s) l34 c34 k34
  have F35 := fun_mk (x := "__init__") (qual := "InvalidMelt.__init__") (st := InvalidMelt_init_s) l35 c35 k35
  have b0 := F0.binds (ps := ["value"]) fun _ _ _ _ _ _ us hl => match us, hl with | [_], _ => rfl
  have b1 := F1.binds (ps := ["value"]) fun _ _ _ _ _ _ us hl => match us, hl with | [_], _ => rfl
  have b2 := F2.binds (ps := ["value"]) fun _ _ _ _ _ _ us hl => match us, hl with | [_], _ => rfl
  have b3 := F3.binds (ps := ["value", "many"]) fun _ _ _ _ _ _ us hl => match us, hl with | [_, _], _ => rfl
  have b4 := F4.binds (ps := ["value", "size"]) fun _ _ _ _ _ _ us hl => match us, hl with | [_, _], _ => rfl
  have b5 := F5.binds (ps := ["self", "rows"]) fun _ _ _ _ _ _ us hl => match us, hl with | [_, _], _ => rfl
  have b6 := F6.binds (ps := ["self"]) fun _ _ _ _ _ _ us hl => match us, hl with | [_], _ => rfl
  have b7 := F7.binds (ps := ["self", "x", "y"]) fun _ _ _ _ _ _ us hl => match us, hl with | [_, _, _], _ => rfl
  have b8 := F8.binds (ps := ["self"]) fun _ _ _ _ _ _ us hl => match us, hl with | [_], _ => rfl
  have b9 := F9.binds (ps := ["self", "other"]) fun _ _ _ _ _ _ us hl => match us, hl with | [_, _], _ => rfl
  have b10 := F10.binds (ps := ["self"]) fun _ _ _ _ _ _ us hl => match us, hl with | [_], _ => rfl
  have b11 := F11.binds (ps := ["table", "value"]) fun _ _ _ _ _ _ us hl => match us, hl with | [_, _], _ => rfl
  have b12 := F12.binds (ps := ["table", "value"]) fun _ _ _ _ _ _ us hl => match us, hl with | [_, _], _ => rfl
  have b13 := F13.binds (ps := ["table", "value"]) fun _ _ _ _ _ _ us hl => match us, hl with | [_, _], _ => rfl
  have b14 := F14.binds (ps := ["table", "melt"]) fun _ _ _ _ _ _ us hl => match us, hl with | [_, _], _ => rfl
  have b15 := F15.binds (ps := ["table", "melt"]) fun _ _ _ _ _ _ us hl => match us, hl with | [_, _], _ => rfl
  have b16 := F16.binds (ps := ["_law_script", "_law_k"]) fun _ _ _ _ _ _ us hl => match us, hl with | [_, _], _ => rfl
  have b17 := F17.binds (ps := ["_law_pot_here", "_law_many"]) fun _ _ _ _ _ _ us hl => match us, hl with | [_, _], _ => rfl
  have b18 := F18.binds (ps := ["_law_pot_here", "_law_some"]) fun _ _ _ _ _ _ us hl => match us, hl with | [_, _], _ => rfl
  have b19 := F19.binds (ps := ["_law_pot_here", "_law_some"]) fun _ _ _ _ _ _ us hl => match us, hl with | [_, _], _ => rfl
  have b20 := F20.binds (ps := ["_law_pot_here"]) fun _ _ _ _ _ _ us hl => match us, hl with | [_], _ => rfl
  have b21 := F21.binds (ps := ["_law_pot_here"]) fun _ _ _ _ _ _ us hl => match us, hl with | [_], _ => rfl
  have b22 := F22.binds (ps := ["_law_pot_here"]) fun _ _ _ _ _ _ us hl => match us, hl with | [_], _ => rfl
  have b23 := F23.binds (ps := ["_law_rows", "_law_melt"]) fun _ _ _ _ _ _ us hl => match us, hl with | [_, _], _ => rfl
  have b24 := F24.binds (ps := ["_law_pot_here", "_law_values_here"]) fun _ _ _ _ _ _ us hl => match us, hl with | [_, _], _ => rfl
  have b25 := F25.binds (ps := ["_law_call"]) fun _ _ _ _ _ _ us hl => match us, hl with | [_], _ => rfl
  have b26 := F26.binds (ps := ["_law_table_here", "_law_rows"]) fun _ _ _ _ _ _ us hl => match us, hl with | [_, _], _ => rfl
  have b27 := F27.binds (ps := ["_law_pot_here", "_law_rows"]) fun _ _ _ _ _ _ us hl => match us, hl with | [_, _], _ => rfl
  have b28 := F28.binds (ps := ["_law_rows", "_law_thing"]) fun _ _ _ _ _ _ us hl => match us, hl with | [_, _], _ => rfl
  have b29 := F29.binds (ps := ["_law_pot_here", "_law_table_here", "_law_rows"]) fun _ _ _ _ _ _ us hl => match us, hl with | [_, _, _], _ => rfl
  have b30 := F30.binds (ps := ["_law_table_here", "_law_rows"]) fun _ _ _ _ _ _ us hl => match us, hl with | [_, _], _ => rfl
  have b31 := F31.binds (ps := ["_law_pot_here"]) fun _ _ _ _ _ _ us hl => match us, hl with | [_], _ => rfl
  have b32 := F32.binds (ps := ["_law_script"]) fun _ _ _ _ _ _ us hl => match us, hl with | [_], _ => rfl
  have b33 := F33.binds (ps := ["self", "position"]) fun _ _ _ _ _ _ us hl => match us, hl with | [_, _], _ => rfl
  have b34 := F34.binds (ps := ["self", "value"]) fun _ _ _ _ _ _ us hl => match us, hl with | [_, _], _ => rfl
  have b35 := F35.binds (ps := ["self", "value"]) fun _ _ _ _ _ _ us hl => match us, hl with | [_, _], _ => rfl
  let fa_ : Nat → Addr := fun i => [f0, f1, f2, f3, f4, f5, f6, f7, f8, f9, f10, f11, f12, f13, f14, f15, f16, f17, f18, f19, f20, f21, f22, f23, f24, f25, f26, f27, f28, f29, f30, f31, f32, f33, f34, f35].getD i 0
  let fd_ : Nat → FuncData := fun i => [(PySem.W.fnOf "is_integer" "is_integer" (defArgs is_integer_s) (defBody is_integer_s) (defScope is_integer_s) .none kV0 dc0 pm0 an0 cd0 ct0),
    (PySem.W.fnOf "is_count" "is_count" (defArgs is_count_s) (defBody is_count_s) (defScope is_count_s) .none kV1 dc1 pm1 an1 cd1 ct1),
    (PySem.W.fnOf "is_list" "is_list" (defArgs is_list_s) (defBody is_list_s) (defScope is_list_s) .none kV2 dc2 pm2 an2 cd2 ct2),
    (PySem.W.fnOf "is_number_below" "is_number_below" (defArgs is_number_below_s) (defBody is_number_below_s) (defScope is_number_below_s) .none kV3 dc3 pm3 an3 cd3 ct3),
    (PySem.W.fnOf "is_row" "is_row" (defArgs is_row_s) (defBody is_row_s) (defScope is_row_s) .none kV4 dc4 pm4 an4 cd4 ct4),
    (PySem.W.fnOf "__init__" "Table.__init__" (defArgs Table_init_s) (defBody Table_init_s) (defScope Table_init_s) .none kV5 dc5 pm5 an5 cd5 ct5),
    (PySem.W.fnOf "rows" "Table.rows" (defArgs Table_rows_s) (defBody Table_rows_s) (defScope Table_rows_s) .none kV6 dc6 pm6 an6 cd6 ct6),
    (PySem.W.fnOf "at" "Table.at" (defArgs Table_at_s) (defBody Table_at_s) (defScope Table_at_s) .none kV7 dc7 pm7 an7 cd7 ct7),
    (PySem.W.fnOf "__len__" "Table.__len__" (defArgs Table_len_s) (defBody Table_len_s) (defScope Table_len_s) .none kV8 dc8 pm8 an8 cd8 ct8),
    (PySem.W.fnOf "__eq__" "Table.__eq__" (defArgs Table_eq_s) (defBody Table_eq_s) (defScope Table_eq_s) .none kV9 dc9 pm9 an9 cd9 ct9),
    (PySem.W.fnOf "__repr__" "Table.__repr__" (defArgs Table_repr_s) (defBody Table_repr_s) (defScope Table_repr_s) .none kV10 dc10 pm10 an10 cd10 ct10),
    (PySem.W.fnOf "check_value" "check_value" (defArgs check_value_s) (defBody check_value_s) (defScope check_value_s) .none kV11 dc11 pm11 an11 cd11 ct11),
    (PySem.W.fnOf "melted" "melted" (defArgs melted_s) (defBody melted_s) (defScope melted_s) .none kV12 dc12 pm12 an12 cd12 ct12),
    (PySem.W.fnOf "is_melt" "is_melt" (defArgs is_melt_s) (defBody is_melt_s) (defScope is_melt_s) .none kV13 dc13 pm13 an13 cd13 ct13),
    (PySem.W.fnOf "result_of" "result_of" (defArgs result_of_s) (defBody result_of_s) (defScope result_of_s) .none kV14 dc14 pm14 an14 cd14 ct14),
    (PySem.W.fnOf "result" "result" (defArgs result_s) (defBody result_s) (defScope result_s) .none kV15 dc15 pm15 an15 cd15 ct15),
    (PySem.W.fnOf "_law_pot" "_law_pot" (defArgs _law_pot_s) (defBody _law_pot_s) (defScope _law_pot_s) .none kV16 dc16 pm16 an16 cd16 ct16),
    (PySem.W.fnOf "_law_draw" "_law_draw" (defArgs _law_draw_s) (defBody _law_draw_s) (defScope _law_draw_s) .none kV17 dc17 pm17 an17 cd17 ct17),
    (PySem.W.fnOf "_law_pick" "_law_pick" (defArgs _law_pick_s) (defBody _law_pick_s) (defScope _law_pick_s) .none kV18 dc18 pm18 an18 cd18 ct18),
    (PySem.W.fnOf "_law_mixed" "_law_mixed" (defArgs _law_mixed_s) (defBody _law_mixed_s) (defScope _law_mixed_s) .none kV19 dc19 pm19 an19 cd19 ct19),
    (PySem.W.fnOf "_law_lots" "_law_lots" (defArgs _law_lots_s) (defBody _law_lots_s) (defScope _law_lots_s) .none kV20 dc20 pm20 an20 cd20 ct20),
    (PySem.W.fnOf "_law_melting" "_law_melting" (defArgs _law_melting_s) (defBody _law_melting_s) (defScope _law_melting_s) .none kV21 dc21 pm21 an21 cd21 ct21),
    (PySem.W.fnOf "_law_table" "_law_table" (defArgs _law_table_s) (defBody _law_table_s) (defScope _law_table_s) .none kV22 dc22 pm22 an22 cd22 ct22),
    (PySem.W.fnOf "_law_result" "_law_result" (defArgs _law_result_s) (defBody _law_result_s) (defScope _law_result_s) .none kV23 dc23 pm23 an23 cd23 ct23),
    (PySem.W.fnOf "_law_grouped" "_law_grouped" (defArgs _law_grouped_s) (defBody _law_grouped_s) (defScope _law_grouped_s) .none kV24 dc24 pm24 an24 cd24 ct24),
    (PySem.W.fnOf "_law_heard" "_law_heard" (defArgs _law_heard_s) (defBody _law_heard_s) (defScope _law_heard_s) .none kV25 dc25 pm25 an25 cd25 ct25),
    (PySem.W.fnOf "_law_told_right" "_law_told_right" (defArgs _law_told_right_s) (defBody _law_told_right_s) (defScope _law_told_right_s) .none kV26 dc26 pm26 an26 (.ref cc26) ct26),
    (PySem.W.fnOf "_law_refused_right" "_law_refused_right" (defArgs _law_refused_right_s) (defBody _law_refused_right_s) (defScope _law_refused_right_s) .none kV27 dc27 pm27 an27 (.ref cc27) ct27),
    (PySem.W.fnOf "_law_is_melt" "_law_is_melt" (defArgs _law_is_melt_s) (defBody _law_is_melt_s) (defScope _law_is_melt_s) .none kV28 dc28 pm28 an28 cd28 ct28),
    (PySem.W.fnOf "_law_melts_right" "_law_melts_right" (defArgs _law_melts_right_s) (defBody _law_melts_right_s) (defScope _law_melts_right_s) .none kV29 dc29 pm29 an29 (.ref cc29) ct29),
    (PySem.W.fnOf "_law_many_right" "_law_many_right" (defArgs _law_many_right_s) (defBody _law_many_right_s) (defScope _law_many_right_s) .none kV30 dc30 pm30 an30 (.ref cc30) ct30),
    (PySem.W.fnOf "_law_right" "_law_right" (defArgs _law_right_s) (defBody _law_right_s) (defScope _law_right_s) .none kV31 dc31 pm31 an31 cd31 ct31),
    (PySem.W.fnOf "law" "law" (defArgs law_s) (defBody law_s) (defScope law_s) .none kV32 dc32 pm32 an32 cd32 ct32),
    (PySem.W.fnOf "__init__" "InvalidTable.__init__" (defArgs InvalidTable_init_s) (defBody InvalidTable_init_s) (defScope InvalidTable_init_s) .none kV33 dc33 pm33 an33 cd33 ct33),
    (PySem.W.fnOf "__init__" "InvalidValue.__init__" (defArgs InvalidValue_init_s) (defBody InvalidValue_init_s) (defScope InvalidValue_init_s) .none kV34 dc34 pm34 an34 cd34 ct34),
    (PySem.W.fnOf "__init__" "InvalidMelt.__init__" (defArgs InvalidMelt_init_s) (defBody InvalidMelt_init_s) (defScope InvalidMelt_init_s) .none kV35 dc35 pm35 an35 cd35 ct35)].getD i (PySem.W.fnOf "law" "law" (defArgs law_s) (defBody law_s) (defScope law_s) .none kV32 dc32 pm32 an32 cd32 ct32)
  have T : Txt K mg fa_ fd_ C (fun i => [tk0, tk1].getD i tk0) := ⟨F0, PySem.W.mg_of X G a0, b0, F1, PySem.W.mg_of X G a1, b1, F2, PySem.W.mg_of X G a2, b2, F3, PySem.W.mg_of X G a3, b3, F4, PySem.W.mg_of X G a4, b4, F5, b5, F6, b6, F7, b7, F8, b8, F9, b9, F10, b10, F11, PySem.W.mg_of X G a11, b11, F12, PySem.W.mg_of X G a12, b12, F13, PySem.W.mg_of X G a13, b13, F14, PySem.W.mg_of X G a14, b14, F15, PySem.W.mg_of X G a15, b15, F16, PySem.W.mg_of X G a16, b16, F17, PySem.W.mg_of X G a17, b17, F18, PySem.W.mg_of X G a18, b18, F19, PySem.W.mg_of X G a19, b19, F20, PySem.W.mg_of X G a20, b20, F21, PySem.W.mg_of X G a21, b21, F22, PySem.W.mg_of X G a22, b22, F23, PySem.W.mg_of X G a23, b23, F24, PySem.W.mg_of X G a24, b24, F25, PySem.W.mg_of X G a25, b25, F26, PySem.W.mg_of X G a26, b26, F27, PySem.W.mg_of X G a27, b27, F28, PySem.W.mg_of X G a28, b28, F29, PySem.W.mg_of X G a29, b29, F30, PySem.W.mg_of X G a30, b30, F31, PySem.W.mg_of X G a31, b31, F32, PySem.W.mg_of X G a32, b32, PySem.W.mg_of X G vMOST_VALUES, PySem.W.mg_of X G vMOST_MELTED, PySem.W.mg_none_of X G zisinstance, PySem.W.mg_none_of X G zint, PySem.W.mg_none_of X G zbool, PySem.W.mg_none_of X G zlist, PySem.W.mg_none_of X G ztuple, PySem.W.mg_none_of X G zall, PySem.W.mg_none_of X G zlen, PySem.W.mg_none_of X G zenumerate, PySem.W.mg_none_of X G zabs, PySem.W.mg_none_of X G zmax, PySem.W.mg_none_of X G zdivmod, PySem.W.mg_none_of X G zrange, PySem.W.mg_none_of X G zsorted, PySem.W.mg_none_of X G zset, PySem.W.mg_none_of X G zrepr, PySem.W.mg_none_of X G zany, PySem.W.mg_none_of X G zmin⟩
  have U : TxC K mg fa_ C := ⟨⟨pg, hd, po, sa⟩, n1, ⟨mk, a5, i5, kc⟩, PySem.W.mg_of X G aC, ⟨a6, i6, k6⟩, ⟨a7, i7, k7⟩, ⟨a8, i8, k8⟩, ⟨a9, i9, k9⟩⟩
  have D : TxD K C := ⟨dha, dhn, dht, dhm, dow⟩
  have D2 : TxQ K fa_ C := ⟨(fun n hn => by
    rcases List.mem_cons.mp hn with rfl | hn
    · exact oNoneType
    rcases List.mem_cons.mp hn with rfl | hn
    · exact obool
    rcases List.mem_cons.mp hn with rfl | hn
    · exact oint
    rcases List.mem_cons.mp hn with rfl | hn
    · exact ostr
    rcases List.mem_cons.mp hn with rfl | hn
    · exact olist
    rcases List.mem_cons.mp hn with rfl | hn
    · exact otuple
    cases hn),
    (fun n hn => by
    rcases List.mem_cons.mp hn with rfl | hn
    · exact qNoneType
    rcases List.mem_cons.mp hn with rfl | hn
    · exact qbool
    rcases List.mem_cons.mp hn with rfl | hn
    · exact qint
    rcases List.mem_cons.mp hn with rfl | hn
    · exact qstr
    rcases List.mem_cons.mp hn with rfl | hn
    · exact qlist
    rcases List.mem_cons.mp hn with rfl | hn
    · exact qtuple
    cases hn), dne, dob, ⟨a10, i10, k10⟩⟩
  have ET : ErC K mg "InvalidTable" "position" CT f33 := ⟨PySem.W.mg_of X G aCT, ⟨⟨_, _, _, _, _, _, _, _, _, _, _, _, _, _, _, xlT, xrT⟩, xsaT, xeT, xtT, xkT⟩, ⟨xgT, xhT, xeT, xiT⟩, xnoT, a33, y33, xcaT, dhn, dht, xcmT, xccT⟩
  have EV : ErC K mg "InvalidValue" "value" CV f34 := ⟨PySem.W.mg_of X G aCV, ⟨⟨_, _, _, _, _, _, _, _, _, _, _, _, _, _, _, xlV, xrV⟩, xsaV, xeV, xtV, xkV⟩, ⟨xgV, xhV, xeV, xiV⟩, xnoV, a34, y34, xcaV, dhn, dht, xcmV, xccV⟩
  have EM : ErC K mg "InvalidMelt" "value" CM f35 := ⟨PySem.W.mg_of X G aCM, ⟨⟨_, _, _, _, _, _, _, _, _, _, _, _, _, _, _, xlM, xrM⟩, xsaM, xeM, xtM, xkM⟩, ⟨xgM, xhM, xeM, xiM⟩, xnoM, a35, y35, xcaM, dhn, dht, xcmM, xccM⟩
  have R : TxR K mg fa_ fd_ CS CT CV CM := ⟨F33, b33, ET, F34, b34, EV, F35, b35, EM, PySem.W.mg_of X G aCS, kit_sub ciS tyS xssT, kit_sub ciS tyS xssV, kit_sub ciS tyS xssM, PySem.W.exm_ref xeT xiT xtT xs1T, PySem.W.exm_ref xeT xiT xtT sbVT, PySem.W.exm_ref xeM xiM xtM sbVM, PySem.W.exm_ref xeV xiV xtV xs1V, PySem.W.exm_ref xeT xiT xtT sbMT, PySem.W.exm_ref xeM xiM xtM xs1M⟩
  let Ts : List (Addr × Str) := [(pp26, ("_law_told_right" ++ ".<locals>.") ++ "<lambda>"), (pp27, ("_law_refused_right" ++ ".<locals>.") ++ "<lambda>"), (pp29, ("_law_melts_right" ++ ".<locals>.") ++ "<lambda>"), (pp30, ("_law_many_right" ++ ".<locals>.") ++ "<lambda>")]
  let cs : List (Addr × Addr) := [(cc26, pp26), (cc27, pp27), (cc29, pp29), (cc30, pp30)]
  have nd2 : (Ts.map (·.1)).Nodup := nd
  have W1 : Kat K (fd_ 7) := kbr1_of fun u ws h2 => match ws, h2 with | [_, _], _ => rfl
  have W2 : Kin K (fd_ 5) := kbn_of fun us ws h1 h2 => match us, ws, h1, h2 with | [_], [_], _, _ => rfl
  have W3 : Kw2 K (fd_ 15) "table" "melt" := kbr_of fun ws h2 => match ws, h2 with | [_, _], _ => rfl
  have W4 : Kw2 K (fd_ 13) "table" "value" := kbr_of fun ws h2 => match ws, h2 with | [_, _], _ => rfl
  refine ⟨fd_ 32, cs, spLawX K Ts, ?_, ?_, fun s v => .of_eq rfl, fun base _ _ tb => ok_lawX T U D D2 R ⟨⟨cc26, pp26, rfl, tb (cc26, pp26) (List.Mem.head _), (List.Mem.head _), uniq_of nd2 (List.Mem.head _)⟩, ⟨cc27, pp27, rfl, tb (cc27, pp27) (List.Mem.tail _ (List.Mem.head _)), (List.Mem.tail _ (List.Mem.head _)), uniq_of nd2 (List.Mem.tail _ (List.Mem.head _))⟩, ⟨cc29, pp29, rfl, tb (cc29, pp29) (List.Mem.tail _ (List.Mem.tail _ (List.Mem.head _))), (List.Mem.tail _ (List.Mem.tail _ (List.Mem.head _))), uniq_of nd2 (List.Mem.tail _ (List.Mem.tail _ (List.Mem.head _)))⟩, ⟨cc30, pp30, rfl, tb (cc30, pp30) (List.Mem.tail _ (List.Mem.tail _ (List.Mem.tail _ (List.Mem.head _)))), (List.Mem.tail _ (List.Mem.tail _ (List.Mem.tail _ (List.Mem.head _)))), uniq_of nd2 (List.Mem.tail _ (List.Mem.tail _ (List.Mem.tail _ (List.Mem.head _))))⟩⟩ W1 W2 W3 W4, ?_⟩
  · intro r hr
    rcases List.mem_cons.mp hr with rfl | hr
    · exact T0 _ _ _ _ rc26 (tab_mk a26 l26 rfl u26 up26)
    rcases List.mem_cons.mp hr with rfl | hr
    · exact T0 _ _ _ _ rc27 (tab_mk a27 l27 rfl u27 up27)
    rcases List.mem_cons.mp hr with rfl | hr
    · exact T0 _ _ _ _ rc29 (tab_mk a29 l29 rfl u29 up29)
    rcases List.mem_cons.mp hr with rfl | hr
    · exact T0 _ _ _ _ rc30 (tab_mk a30 l30 rfl u30 up30)
    cases hr
  · intro r hr
    rcases List.mem_cons.mp hr with rfl | hr
    · exact no26
    rcases List.mem_cons.mp hr with rfl | hr
    · exact no27
    rcases List.mem_cons.mp hr with rfl | hr
    · exact no29
    rcases List.mem_cons.mp hr with rfl | hr
    · exact no30
    cases hr
  · intro H a ns hT hl hS
    refine ⟨a, ns, rfl, hS, Nat.le_trans hl (by decide), tabs_0 fun r hr => ?_, fun _ => rfl⟩
    rcases List.mem_cons.mp hr with rfl | hr
    · exact hT (cc26, pp26) (List.Mem.head _)
    rcases List.mem_cons.mp hr with rfl | hr
    · exact hT (cc27, pp27) (List.Mem.tail _ (List.Mem.head _))
    rcases List.mem_cons.mp hr with rfl | hr
    · exact hT (cc29, pp29) (List.Mem.tail _ (List.Mem.tail _ (List.Mem.head _)))
    rcases List.mem_cons.mp hr with rfl | hr
    · exact hT (cc30, pp30) (List.Mem.tail _ (List.Mem.tail _ (List.Mem.tail _ (List.Mem.head _))))
    cases hr
end K31

set_option maxRecDepth 100000
namespace K31
open PySem PySem.Spec PyProof.Rows L2 Kh
theorem walk {l : PySem.W.OpenLaw} {q : Program} {loose : List Str} {XP : (Str → Option Value) → Heap → Prop} {YP : World → Heap → Prop} {d : DefRec} {K : Params → PySem.W.Frag} (m1 : l.most = some 63) (m2 : d.params.defaults = [])
    (m3 : ∀ (w : World) (h : Heap), YP w h → (K w.params).In h)
    (Fl : ∀ (w : World) (mg : Str → Option Value) (fa : Addr) (h : Heap), (K w.params).In h → h.Ns mainGlobals mg → mg d.name = some (.ref fa) → Tab0 q (K w.params) h → LawT l.prog w (K w.params) mg h 51 63 fa "_law_script") :
    PySem.W.WalkO q loose XP YP l.row.toRowW d [] (fun f vs => PySem.call f vs) :=
  walk_gT (n := 63) (k := 51) (x := "_law_script") m1 (by decide) m2 ⟨rfl, by decide, by decide⟩ m3 Fl
end K31

open PySem PySem.W PyProof.Rows in
set_option maxRecDepth 100000 in
set_option maxHeartbeats 0 in
theorem PySem.Challenge.cw_oneshelf_k40_tables_and_results_holds : PySem.Challenge.rw_oneshelf_k40_tables_and_results.Holds := by
  w_on; o_law; k_head; (case hw => w_witness2)
  k_fill
  refine K31.walk (l := PySem.Challenge.rw_oneshelf_k40_tables_and_results) rfl rfl (fun w h Y => PySem.W.km_in_of Y) ?F
  case F =>
    intro w mg fa h KX G hmg hT0
    refine' K31.all_mk KX G hmg hT0 ?a0 ?l0 ?c0 ?k0 ?a1 ?l1 ?c1 ?k1 ?a2 ?l2 ?c2 ?k2 ?a3 ?l3 ?c3 ?k3 ?a4 ?l4 ?c4 ?k4 ?a5 ?i5 ?l5 ?c5 ?k5 ?a6 ?i6 ?l6 ?c6 ?k6 ?a7 ?i7 ?l7 ?c7 ?k7 ?a8 ?i8 ?l8 ?c8 ?k8 ?a9 ?i9 ?l9 ?c9 ?k9 ?a10 ?i10 ?l10 ?c10 ?k10 ?a11 ?l11 ?c11 ?k11 ?a12 ?l12 ?c12 ?k12 ?a13 ?l13 ?c13 ?k13 ?a14 ?l14 ?c14 ?k14 ?a15 ?l15 ?c15 ?k15 ?a16 ?l16 ?c16 ?k16 ?a17 ?l17 ?c17 ?k17 ?a18 ?l18 ?c18 ?k18 ?a19 ?l19 ?c19 ?k19 ?a20 ?l20 ?c20 ?k20 ?a21 ?l21 ?c21 ?k21 ?a22 ?l22 ?c22 ?k22 ?a23 ?l23 ?c23 ?k23 ?a24 ?l24 ?c24 ?k24 ?a25 ?l25 ?c25 ?k25 ?a26 ?l26 ?c26 ?k26 ?a27 ?l27 ?c27 ?k27 ?a28 ?l28 ?c28 ?k28 ?a29 ?l29 ?c29 ?k29 ?a30 ?l30 ?c30 ?k30 ?a31 ?l31 ?c31 ?k31 ?a32 ?l32 ?c32 ?k32 ?a33 ?y33 ?l33 ?c33 ?k33 ?a34 ?y34 ?l34 ?c34 ?k34 ?a35 ?y35 ?l35 ?c35 ?k35 ?u26 ?up26 ?no26 ?rc26 ?u27 ?up27 ?no27 ?rc27 ?u29 ?up29 ?no29 ?rc29 ?u30 ?up30 ?no30 ?rc30 ?nd ?aC ?pg ?hd ?po ?sa ?mk ?kc ?n1 ?dha ?dhn ?dht ?dhm ?dow ?dne ?dob ?oNoneType ?qNoneType ?obool ?qbool ?oint ?qint ?ostr ?qstr ?olist ?qlist ?otuple ?qtuple ?aCS ?ciS ?tyS ?aCT ?xlT ?xrT ?xsaT ?xeT ?xtT ?xkT ?xgT ?xhT ?xiT ?xnoT ?xcaT ?xcmT ?xccT ?xssT ?xs1T ?aCV ?xlV ?xrV ?xsaV ?xeV ?xtV ?xkV ?xgV ?xhV ?xiV ?xnoV ?xcaV ?xcmV ?xccV ?xssV ?xs1V ?aCM ?xlM ?xrM ?xsaM ?xeM ?xtM ?xkM ?xgM ?xhM ?xiM ?xnoM ?xcaM ?xcmM ?xccM ?xssM ?xs1M ?sbVT ?sbVM ?sbMT ?vMOST_VALUES ?vMOST_MELTED ?zisinstance ?zint ?zbool ?zlist ?ztuple ?zall ?zlen ?zenumerate ?zabs ?zmax ?zdivmod ?zrange ?zsorted ?zset ?zrepr ?zany ?zmin
    (case aC => k_is)
    (case aCS => k_is)
    (case aCT => k_is)
    (case aCV => k_is)
    (case aCM => k_is)
    (case a0 => k_is)
    (case l0 => k_is)
    (case c0 => k_is)
    (case k0 => k_is)
    (case a1 => k_is)
    (case l1 => k_is)
    (case c1 => k_is)
    (case k1 => k_is)
    (case a2 => k_is)
    (case l2 => k_is)
    (case c2 => k_is)
    (case k2 => k_is)
    (case a3 => k_is)
    (case l3 => k_is)
    (case c3 => k_is)
    (case k3 => k_is)
    (case a4 => k_is)
    (case l4 => k_is)
    (case c4 => k_is)
    (case k4 => k_is)
    (case a5 => k_is)
    (case i5 => k_is)
    (case l5 => k_is)
    (case c5 => k_is)
    (case k5 => k_is)
    (case a6 => k_is)
    (case i6 => k_is)
    (case l6 => k_is)
    (case c6 => k_is)
    (case k6 => k_is)
    (case a7 => k_is)
    (case i7 => k_is)
    (case l7 => k_is)
    (case c7 => k_is)
    (case k7 => k_is)
    (case a8 => k_is)
    (case i8 => k_is)
    (case l8 => k_is)
    (case c8 => k_is)
    (case k8 => k_is)
    (case a9 => k_is)
    (case i9 => k_is)
    (case l9 => k_is)
    (case c9 => k_is)
    (case k9 => k_is)
    (case a10 => k_is)
    (case i10 => k_is)
    (case l10 => k_is)
    (case c10 => k_is)
    (case k10 => k_is)
    (case a11 => k_is)
    (case l11 => k_is)
    (case c11 => k_is)
    (case k11 => k_is)
    (case a12 => k_is)
    (case l12 => k_is)
    (case c12 => k_is)
    (case k12 => k_is)
    (case a13 => k_is)
    (case l13 => k_is)
    (case c13 => k_is)
    (case k13 => k_is)
    (case a14 => k_is)
    (case l14 => k_is)
    (case c14 => k_is)
    (case k14 => k_is)
    (case a15 => k_is)
    (case l15 => k_is)
    (case c15 => k_is)
    (case k15 => k_is)
    (case a16 => k_is)
    (case l16 => k_is)
    (case c16 => k_is)
    (case k16 => k_is)
    (case a17 => k_is)
    (case l17 => k_is)
    (case c17 => k_is)
    (case k17 => k_is)
    (case a18 => k_is)
    (case l18 => k_is)
    (case c18 => k_is)
    (case k18 => k_is)
    (case a19 => k_is)
    (case l19 => k_is)
    (case c19 => k_is)
    (case k19 => k_is)
    (case a20 => k_is)
    (case l20 => k_is)
    (case c20 => k_is)
    (case k20 => k_is)
    (case a21 => k_is)
    (case l21 => k_is)
    (case c21 => k_is)
    (case k21 => k_is)
    (case a22 => k_is)
    (case l22 => k_is)
    (case c22 => k_is)
    (case k22 => k_is)
    (case a23 => k_is)
    (case l23 => k_is)
    (case c23 => k_is)
    (case k23 => k_is)
    (case a24 => k_is)
    (case l24 => k_is)
    (case c24 => k_is)
    (case k24 => k_is)
    (case a25 => k_is)
    (case l25 => k_is)
    (case c25 => k_is)
    (case k25 => k_is)
    (case a26 => k_is)
    (case l26 => k_is)
    (case c26 => k_is)
    (case k26 => k_is)
    (case a27 => k_is)
    (case l27 => k_is)
    (case c27 => k_is)
    (case k27 => k_is)
    (case a28 => k_is)
    (case l28 => k_is)
    (case c28 => k_is)
    (case k28 => k_is)
    (case a29 => k_is)
    (case l29 => k_is)
    (case c29 => k_is)
    (case k29 => k_is)
    (case a30 => k_is)
    (case l30 => k_is)
    (case c30 => k_is)
    (case k30 => k_is)
    (case a31 => k_is)
    (case l31 => k_is)
    (case c31 => k_is)
    (case k31 => k_is)
    (case a32 => k_is)
    (case l32 => k_is)
    (case c32 => k_is)
    (case k32 => k_is)
    (case a33 => k_is)
    (case y33 => k_is)
    (case l33 => k_is)
    (case c33 => k_is)
    (case k33 => k_is)
    (case a34 => k_is)
    (case y34 => k_is)
    (case l34 => k_is)
    (case c34 => k_is)
    (case k34 => k_is)
    (case a35 => k_is)
    (case y35 => k_is)
    (case l35 => k_is)
    (case c35 => k_is)
    (case k35 => k_is)
    (case u26 => k_is)
    (case up26 => rfl)
    (case no26 => kernel_rfl)
    (case rc26 => first | rfl | decide +kernel)
    (case u27 => k_is)
    (case up27 => rfl)
    (case no27 => kernel_rfl)
    (case rc27 => first | rfl | decide +kernel)
    (case u29 => k_is)
    (case up29 => rfl)
    (case no29 => kernel_rfl)
    (case rc29 => first | rfl | decide +kernel)
    (case u30 => k_is)
    (case up30 => rfl)
    (case no30 => kernel_rfl)
    (case rc30 => first | rfl | decide +kernel)
    (case nd => decide)
    (case pg => k_is)
    (case hd => k_is)
    (case po => k_is)
    (case sa => k_is)
    (case mk => k_is)
    (case kc => k_is)
    (case n1 => k_is)
    (case dha => k_is)
    (case dhn => k_is)
    (case dht => k_is)
    (case dhm => k_is)
    (case dow => exact if_pos (beq_self_eq_true _))
    (case dne => k_is)
    (case dob => k_is)
    (case oNoneType => (refine' K31.kit_oth ?ci ?ty ?m6; (case ci => k_is); (case ty => k_is); (case m6 => exact K31.mro6 _ (by simp))))
    (case qNoneType => k_is)
    (case obool => (refine' K31.kit_oth ?ci ?ty ?m6; (case ci => k_is); (case ty => k_is); (case m6 => exact K31.mro6 _ (by simp))))
    (case qbool => k_is)
    (case oint => (refine' K31.kit_oth ?ci ?ty ?m6; (case ci => k_is); (case ty => k_is); (case m6 => exact K31.mro6 _ (by simp))))
    (case qint => k_is)
    (case ostr => (refine' K31.kit_oth ?ci ?ty ?m6; (case ci => k_is); (case ty => k_is); (case m6 => exact K31.mro6 _ (by simp))))
    (case qstr => k_is)
    (case olist => (refine' K31.kit_oth ?ci ?ty ?m6; (case ci => k_is); (case ty => k_is); (case m6 => exact K31.mro6 _ (by simp))))
    (case qlist => k_is)
    (case otuple => (refine' K31.kit_oth ?ci ?ty ?m6; (case ci => k_is); (case ty => k_is); (case m6 => exact K31.mro6 _ (by simp))))
    (case qtuple => k_is)
    (case ciS => k_is)
    (case tyS => k_is)
    (case xlT => k_is)
    (case xrT => decide +kernel)
    (case xsaT => k_is)
    (case xeT => k_is)
    (case xtT => k_is)
    (case xkT => k_is)
    (case xgT => k_is)
    (case xhT => k_is)
    (case xiT => k_is)
    (case xnoT => k_is)
    (case xcaT => k_is)
    (case xcmT => k_is)
    (case xccT => k_is)
    (case xssT => k_is)
    (case xs1T => k_is)
    (case xlV => k_is)
    (case xrV => decide +kernel)
    (case xsaV => k_is)
    (case xeV => k_is)
    (case xtV => k_is)
    (case xkV => k_is)
    (case xgV => k_is)
    (case xhV => k_is)
    (case xiV => k_is)
    (case xnoV => k_is)
    (case xcaV => k_is)
    (case xcmV => k_is)
    (case xccV => k_is)
    (case xssV => k_is)
    (case xs1V => k_is)
    (case xlM => k_is)
    (case xrM => decide +kernel)
    (case xsaM => k_is)
    (case xeM => k_is)
    (case xtM => k_is)
    (case xkM => k_is)
    (case xgM => k_is)
    (case xhM => k_is)
    (case xiM => k_is)
    (case xnoM => k_is)
    (case xcaM => k_is)
    (case xcmM => k_is)
    (case xccM => k_is)
    (case xssM => k_is)
    (case xs1M => k_is)
    (case sbVT => k_is)
    (case sbVM => k_is)
    (case sbMT => k_is)
    (case vMOST_VALUES => k_is)
    (case vMOST_MELTED => k_is)
    (case zisinstance => k_is)
    (case zint => k_is)
    (case zbool => k_is)
    (case zlist => k_is)
    (case ztuple => k_is)
    (case zall => k_is)
    (case zlen => k_is)
    (case zenumerate => k_is)
    (case zabs => k_is)
    (case zmax => k_is)
    (case zdivmod => k_is)
    (case zrange => k_is)
    (case zsorted => k_is)
    (case zset => k_is)
    (case zrepr => k_is)
    (case zany => k_is)
    (case zmin => k_is)
#print axioms PySem.Challenge.cw_oneshelf_k40_tables_and_results_holds

