import PyProof.Rows.All
import Wide.All
import OpenK.AllK
import Wide.FinOn
import HandS.ForMost
import HandS.AnyAll
import HandS.Conv
import HandS.IsInst
import HandS.Flow
import HandS.Walk
import HandS.Evl
import HandS.SortOrd
import KE.KSortTupG
import HandS.TupLe
import HandS.More
import PySem.Challenge.RW_watchfloor_k01_base_labels_change
set_option Elab.async false
set_option linter.all false
set_option maxRecDepth 100000
set_option maxHeartbeats 2000000
/-! DW: walks by data. F: the part of the heap that stays, H: all of it. -/
namespace DW
open PySem PySem.Spec PyProof.Rows L2

/-- what stands in F stands in H (tables may grow) -/
def Ex (F H : Hp) : Prop := ∀ a o, F a = some o → (∀ ps, o ≠ .tbl ps) → H a = some o
theorem Ex.refl (F : Hp) : Ex F F := fun _ _ h _ => h
theorem Ex.trans {F G H : Hp} (a : Ex F G) (b : Ex G H) : Ex F H := fun x o h n => b x o (a x o h n) n
theorem Ex.lst {F H : Hp} (e : Ex F H) {p : Addr} {xs : List V} (h : F p = some (.lst xs)) : H p = some (.lst xs) := e p _ h fun _ z => by cases z
theorem Ex.dk {F H : Hp} (e : Ex F H) {p : Addr} {xs : List (Key × V)} (h : F p = some (.dK xs)) : H p = some (.dK xs) := e p _ h fun _ z => by cases z
theorem Ex.rd {F H : Hp} (e : Ex F H) {a : Addr} {u : HO} (h : Rd F a u) (n : ∀ ps, u ≠ .tbl ps) : Rd H a u := by
  rcases h with h | ⟨o, h⟩
  · exact .inl (e a _ h n)
  · exact .inr ⟨o, e a _ h fun _ z => by cases z⟩
theorem Ex.l {K : PySem.W.Frag} {F H : Hp} {a : Addr} {xs : List V} (e : Ex F H) (h : SqL K F a xs) : SqL K H a xs := by
  rcases h with h | h
  · exact .inl (e.rd h fun _ z => by cases z)
  · exact .inr h
theorem Ex.t {K : PySem.W.Frag} {F H : Hp} {a : Addr} {xs : List V} (e : Ex F H) (h : SqT K F a xs) : SqT K H a xs := by
  rcases h with h | h
  · exact .inl (e.rd h fun _ z => by cases z)
  · exact .inr h
mutual
theorem Ex.dp {K : PySem.W.Frag} {F H : Hp} (e : Ex F H) : ∀ (d : PyData) (v : V), Dp K F v d → Dp K H v d
  | .none, _, h => by cases h; exact .non
  | .bool b, _, h => by cases h; exact .bl b
  | .int i, _, h => by cases h; exact .int i
  | .str x, _, h => by cases h; exact .str x
  | .list ds, _, h => by
    cases h with
    | lst h1 h2 => exact .lst (e.l h1) (Ex.dps e ds _ h2)
  | .tuple ds, _, h => by
    cases h with
    | tup h1 h2 => exact .tup (e.t h1) (Ex.dps e ds _ h2)
  | .dict _, _, h => by cases h
theorem Ex.dps {K : PySem.W.Frag} {F H : Hp} (e : Ex F H) : ∀ (ds : List PyData) (vs : List V), DpAll K F vs ds → DpAll K H vs ds
  | [], _, h => by cases h; exact .nil
  | d :: ds, _, h => by
    cases h with
    | cons h1 h2 => exact .cons (Ex.dp e d _ h1) (Ex.dps e ds _ h2)
end
section
variable {K : PySem.W.Frag} {F H : Hp} {v : V} {d : PyData} {vs : List V} {ds : List PyData}
theorem dps_len : ∀ {vs : List V} {ds : List PyData}, DpAll K F vs ds → vs.length = ds.length
  | _, _, .nil => rfl
  | _, _, .cons _ t => by rw [List.length_cons, List.length_cons, dps_len t]
theorem dps_get : ∀ {vs : List V} {ds : List PyData} {i : Nat} {d : PyData}, DpAll K F vs ds → ds[i]? = some d → ∃ v, vs[i]? = some v ∧ Dp K F v d
  | _, _, _, _, .nil, e => by simp at e
  | _, _, 0, _, .cons h _, e => by simp at e; subst e; exact ⟨_, rfl, h⟩
  | _, _, i + 1, d, .cons _ t, e => by
    obtain ⟨v, h1, h2⟩ := dps_get (i := i) (d := d) t (by simpa using e)
    exact ⟨v, by simpa using h1, h2⟩
theorem dps_get' : ∀ {vs : List V} {ds : List PyData} {i : Nat} {v : V}, DpAll K F vs ds → vs[i]? = some v → ∃ d, ds[i]? = some d ∧ Dp K F v d
  | _, _, _, _, .nil, e => by simp at e
  | _, _, 0, _, .cons h _, e => by simp at e; subst e; exact ⟨_, rfl, h⟩
  | _, _, i + 1, v, .cons _ t, e => by
    obtain ⟨d, h1, h2⟩ := dps_get' (i := i) (v := v) t (by simpa using e)
    exact ⟨d, by simpa using h1, h2⟩
theorem dps_app : ∀ {vs ws : List V} {ds es : List PyData}, DpAll K F vs ds → DpAll K F ws es → DpAll K F (vs ++ ws) (ds ++ es)
  | _, _, _, _, .nil, h => h
  | _, _, _, _, .cons a t, h => .cons a (dps_app t h)
theorem dps_take : ∀ {vs : List V} {ds : List PyData} (n : Nat), DpAll K F vs ds → DpAll K F (vs.take n) (ds.take n)
  | _, _, 0, _ => .nil
  | _, _, _ + 1, .nil => .nil
  | _, _, n + 1, .cons a t => .cons a (dps_take n t)
theorem dps_drop : ∀ {vs : List V} {ds : List PyData} (n : Nat), DpAll K F vs ds → DpAll K F (vs.drop n) (ds.drop n)
  | _, _, 0, h => h
  | _, _, _ + 1, .nil => .nil
  | _, _, n + 1, .cons _ t => dps_drop n t
theorem dp_sq (h : Dp K F v (.list ds)) : ∃ a vs, v = .ref a ∧ SqL K F a vs ∧ DpAll K F vs ds := by
  cases h with
  | lst h1 h2 => exact ⟨_, _, rfl, h1, h2⟩
theorem dp_tq (h : Dp K F v (.tuple ds)) : ∃ a vs, v = .ref a ∧ SqT K F a vs ∧ DpAll K F vs ds := by
  cases h with
  | tup h1 h2 => exact ⟨_, _, rfl, h1, h2⟩
end
/-- a value that needs no heap -/
def scalD : PyData → Bool
  | .none => true
  | .bool _ => true
  | .int _ => true
  | .str _ => true
  | _ => false
theorem dp_scal {K : PySem.W.Frag} {F H : Hp} {v : V} : ∀ {d : PyData}, scalD d = true → Dp K H v d → Dp K F v d
  | .none, _, h => by cases h; exact .non
  | .bool b, _, h => by cases h; exact .bl b
  | .int i, _, h => by cases h; exact .int i
  | .str x, _, h => by cases h; exact .str x
  | .list _, e, _ => by cases e
  | .tuple _, e, _ => by cases e
  | .dict _, e, _ => by cases e

/-- F is a part of H, without tables -/
structure Sub (F H : Hp) : Prop where
  ex : Ex F H
  nt : ∀ a ps, F a ≠ some (.tbl ps)
theorem Sub.free {F H : Hp} (e : Sub F H) {p : Addr} (h : H p = none) : F p = none := by
  cases q : F p with
  | none => rfl
  | some o => rw [e.ex p o q (fun ps z => e.nt p ps (by rw [q, z]))] at h; cases h
/-- H without its tables -/
def cut (H : Hp) : Hp := fun a => match H a with
  | some (.tbl _) => none
  | o => o
theorem cut_of {H : Hp} {a : Addr} {o : HO} (h : H a = some o) (n : ∀ ps, o ≠ .tbl ps) : cut H a = some o := by
  unfold cut; rw [h]; cases o <;> first | rfl | exact absurd rfl (n _)
theorem of_cut {H : Hp} {a : Addr} {o : HO} (h : cut H a = some o) : H a = some o ∧ ∀ ps, o ≠ .tbl ps := by
  unfold cut at h
  cases q : H a with
  | none => rw [q] at h; cases h
  | some u =>
    rw [q] at h
    cases u <;> first | (cases h; exact ⟨rfl, fun _ z => by cases z⟩) | cases h
theorem ex_cut (H : Hp) : Ex H (cut H) := fun _ _ h n => cut_of h n
theorem sub_cut (H : Hp) : Sub (cut H) H := ⟨fun _ _ h _ => (of_cut h).1, fun _ ps h => (of_cut h).2 ps rfl⟩
/-- from (F, H) to (F', H'): nothing that stood changes (tables grow), what was ours stays out of F -/
structure Stp (F H F' H' : Hp) : Prop where
  f : Ex F F'
  i : Sub F' H'
  h : Ex H H'
  s : ∀ a o, H a = some o → ∃ o', H' a = some o'
  t : ∀ P, GxR.TabG H P → GxR.TabG H' P
  n : ∀ a o, H a = some o → F a = none → F' a = none
section
variable {F H F1 H1 F2 H2 : Hp} {p : Addr} {o : HO}
theorem Stp.refl (e : Sub F H) : Stp F H F H := ⟨Ex.refl F, e, Ex.refl H, fun _ o h => ⟨o, h⟩, fun _ h => h, fun _ _ _ h => h⟩
theorem Stp.trans (a : Stp F H F1 H1) (b : Stp F1 H1 F2 H2) : Stp F H F2 H2 :=
  ⟨a.f.trans b.f, b.i, a.h.trans b.h, fun x o h => let ⟨o', h'⟩ := a.s x o h; b.s x o' h', fun P h => b.t P (a.t P h), fun x o h n => let ⟨o', h'⟩ := a.s x o h; b.n x o' h' (a.n x o h n)⟩
theorem tab_upd (h : H p = none) {P : Addr} (t : GxR.TabG H P) : GxR.TabG (upd H p o) P := by
  obtain ⟨ps, e, r⟩ := t
  exact ⟨ps, by rw [upd_ne (ne_of_none e h)]; exact e, r⟩
/-- a new object, ours alone -/
theorem Stp.mine (e : Sub F H) (h : H p = none) : Stp F H F (upd H p o) :=
  ⟨Ex.refl F, ⟨fun a u q n => by have := e.ex a u q n; rw [upd_ne (ne_of_none this h)]; exact this, e.nt⟩, fun a u q _ => by rw [upd_ne (ne_of_none q h)]; exact q,
    fun a u q => ⟨u, by rw [upd_ne (ne_of_none q h)]; exact q⟩, fun _ t => tab_upd h t, fun _ _ _ n => n⟩
/-- a new object for good -/
theorem Stp.new (e : Sub F H) (h : H p = none) (ho : ∀ ps, o ≠ .tbl ps) : Stp F H (upd F p o) (upd H p o) := by
  refine ⟨fun a u q n => ?_, ⟨fun a u q n => ?_, fun a ps q => ?_⟩, fun a u q _ => by rw [upd_ne (ne_of_none q h)]; exact q, fun a u q => ⟨u, by rw [upd_ne (ne_of_none q h)]; exact q⟩, fun _ t => tab_upd h t, fun a u q n => ?_⟩
  · have := e.ex a u q n
    rw [upd_ne (ne_of_none this h)]; exact q
  · by_cases ha : a = p
    · subst ha; rw [upd_same] at q ⊢; exact q
    · rw [upd_ne ha] at q ⊢; exact e.ex a u q n
  · by_cases ha : a = p
    · subst ha; rw [upd_same] at q; cases q; exact ho ps rfl
    · rw [upd_ne ha] at q; exact e.nt a ps q
  · rw [upd_ne (ne_of_none q h)]; exact n
end

/-! ### what the slots hold -/
inductive Sl where
  | un
  | fz (d : PyData)
  | ow (ds : List PyData)
  | raw (v : V)
  | od (kvs : List (Str × PyData))
  | fk (kvs : List (Str × PyData))
def Sl.mine : Sl → Bool
  | .ow _ => true
  | .od _ => true
  | _ => false
/-- a dict with text keys -/
structure KvOk (K : PySem.W.Frag) (F : Hp) (vs : List (Key × V)) (kvs : List (Str × PyData)) : Prop where
  ks : vs.map (·.1) = kvs.map fun p => Sum.inr p.1
  ds : DpAll K F (vs.map (·.2)) (kvs.map (·.2))
theorem KvOk.mono {K : PySem.W.Frag} {F H : Hp} {vs : List (Key × V)} {kvs : List (Str × PyData)} (e : Ex F H) (h : KvOk K F vs kvs) : KvOk K H vs kvs := ⟨h.ks, e.dps _ _ h.ds⟩
def SlOk (K : PySem.W.Frag) (H0 F H : Hp) (o : Option V) : Sl → Prop
  | .un => True
  | .fz d => ∃ v, o = some v ∧ Dp K F v d
  | .ow ds => ∃ p vs, o = some (.ref p) ∧ H0 p = none ∧ F p = none ∧ H p = some (.lst vs) ∧ DpAll K F vs ds
  | .raw v => o = some v
  | .od kvs => ∃ p vs, o = some (.ref p) ∧ H0 p = none ∧ F p = none ∧ H p = some (.dK vs) ∧ KvOk K F vs kvs
  | .fk kvs => ∃ p vs, o = some (.ref p) ∧ Rd F p (.dK vs) ∧ KvOk K F vs kvs
/-- the ground: written part, tables, the heaps at the entry -/
structure Gd where
  K : PySem.W.Frag
  T : List Addr
  F0 : Hp
  H0 : Hp
  Fl : Hp
structure Holds (g : Gd) (G : List Sl) (σ : L2.St) (F H : Hp) : Prop where
  len : σ.length = G.length
  st : Stp g.F0 g.H0 F H
  sl : ∀ (i : Nat) (s : Sl) (o : Option V), G[i]? = some s → σ[i]? = some o → SlOk g.K g.H0 F H o s
  apart : ∀ (i j : Nat) (s t : Sl) (p : Addr), G[i]? = some s → G[j]? = some t → s.mine = true → t.mine = true → σ[i]? = some (some (.ref p)) → σ[j]? = some (some (.ref p)) → i = j
  tab : ∀ P ∈ g.T, GxR.TabG H P
  lo : Ex g.Fl F
section
variable {g : Gd} {G : List Sl} {σ : L2.St} {F H F' H' : Hp} {i : Nat}
theorem Holds.at_ (h : Holds g G σ F H) {s : Sl} (e : G[i]? = some s) : ∃ o, σ[i]? = some o ∧ SlOk g.K g.H0 F H o s := by
  have hi : i < σ.length := by rw [h.len]; exact (List.getElem?_eq_some_iff.mp e).1
  exact ⟨σ[i], List.getElem?_eq_getElem hi, h.sl i s _ e (List.getElem?_eq_getElem hi)⟩
theorem SlOk.mono {K : PySem.W.Frag} {H0 : Hp} {o : Option V} (s : Stp F H F' H') : ∀ {x : Sl}, SlOk K H0 F H o x → SlOk K H0 F' H' o x
  | .un, _ => trivial
  | .fz d, ⟨v, e, h⟩ => ⟨v, e, s.f.dp d v h⟩
  | .ow ds, ⟨p, vs, e, h0, hF, hH, hd⟩ => ⟨p, vs, e, h0, s.n p _ hH hF, s.h.lst hH, s.f.dps ds vs hd⟩
  | .raw v, h => h
  | .od kvs, ⟨p, vs, e, h0, hF, hH, hd⟩ => ⟨p, vs, e, h0, s.n p _ hH hF, s.h.dk hH, hd.mono s.f⟩
  | .fk kvs, ⟨p, vs, e, hr, hd⟩ => ⟨p, vs, e, s.f.rd hr (fun _ z => by cases z), hd.mono s.f⟩
theorem Holds.mono (h : Holds g G σ F H) (s : Stp F H F' H') : Holds g G σ F' H' :=
  ⟨h.len, h.st.trans s, fun i x o e1 e2 => (h.sl i x o e1 e2).mono s, h.apart, fun P hP => s.t P (h.tab P hP), h.lo.trans s.f⟩
/-- a slot set -/
theorem Holds.set (h : Holds g G σ F H) {v : V} {s : Sl} (hs : SlOk g.K g.H0 F H (some v) s) (hm : s.mine = true → ∀ (j : Nat) (t : Sl) , j ≠ i → G[j]? = some t → t.mine = true → σ[j]? ≠ some (some v)) : Holds g (G.set i s) (σ.set i (some v)) F H := by
  refine ⟨by rw [List.length_set, List.length_set]; exact h.len, h.st, fun j x o e1 e2 => ?_, fun j k x y p e1 e2 m1 m2 e3 e4 => ?_, h.tab, h.lo⟩
  · by_cases hj : i = j
    · subst hj
      have hi : i < G.length := by have := (List.getElem?_eq_some_iff.mp e1).1; rwa [List.length_set] at this
      rw [List.getElem?_set_self hi] at e1
      rw [List.getElem?_set_self (by rw [h.len]; exact hi)] at e2
      cases e1; cases e2; exact hs
    · rw [List.getElem?_set_ne hj] at e1 e2
      exact h.sl j x o e1 e2
  · by_cases hj : i = j
    · by_cases hk : i = k
      · exact hj.symm.trans hk
      · subst hj
        have hi : i < G.length := by have := (List.getElem?_eq_some_iff.mp e1).1; rwa [List.length_set] at this
        rw [List.getElem?_set_self hi] at e1
        rw [List.getElem?_set_self (by rw [h.len]; exact hi)] at e3
        rw [List.getElem?_set_ne hk] at e2 e4
        cases e1; cases e3
        exact absurd e4 (hm m1 k y (Ne.symm hk) e2 m2)
    · by_cases hk : i = k
      · subst hk
        have hi : i < G.length := by have := (List.getElem?_eq_some_iff.mp e2).1; rwa [List.length_set] at this
        rw [List.getElem?_set_self hi] at e2
        rw [List.getElem?_set_self (by rw [h.len]; exact hi)] at e4
        rw [List.getElem?_set_ne hj] at e1 e3
        cases e2; cases e4
        exact absurd e3 (hm m2 j x (Ne.symm hj) e1 m1)
      · rw [List.getElem?_set_ne hj] at e1 e3
        rw [List.getElem?_set_ne hk] at e2 e4
        exact h.apart j k x y p e1 e2 m1 m2 e3 e4
theorem Holds.setF (h : Holds g G σ F H) {v : V} {d : PyData} (hd : Dp g.K F v d) : Holds g (G.set i (.fz d)) (σ.set i (some v)) F H :=
  h.set (s := .fz d) ⟨v, rfl, hd⟩ fun z => by cases z
/-- a list of ours that no slot holds -/
theorem Holds.setO (h : Holds g G σ F H) {p : Addr} {vs : List V} {ds : List PyData} (h0 : g.H0 p = none) (hF : F p = none) (hH : H p = some (.lst vs)) (hd : DpAll g.K F vs ds) (new : ∀ (j : Nat), j ≠ i → (∃ t, G[j]? = some t ∧ t.mine = true) → σ[j]? ≠ some (some (.ref p))) :
    Holds g (G.set i (.ow ds)) (σ.set i (some (.ref p))) F H :=
  h.set (s := .ow ds) ⟨p, vs, rfl, h0, hF, hH, hd⟩ fun _ j t hj e m => new j hj ⟨t, e, m⟩
/-- forgetting -/
theorem Holds.weak (h : Holds g G σ F H) {G' : List Sl} (hl : G'.length = G.length) (w : ∀ (j : Nat) (s : Sl), G'[j]? = some s → s = .un ∨ G[j]? = some s) : Holds g G' σ F H := by
  refine ⟨h.len.trans hl.symm, h.st, fun j s o e1 e2 => ?_, fun j k s t p e1 e2 m1 m2 e3 e4 => ?_, h.tab, h.lo⟩
  · rcases w j s e1 with rfl | e
    · trivial
    · exact h.sl j s o e e2
  · rcases w j s e1 with rfl | e
    · cases m1
    · rcases w k t e2 with rfl | e'
      · cases m2
      · exact h.apart j k s t p e e' m1 m2 e3 e4
end

/-! ### the judgements -/
/-- te gives d, for good -/
def E (g : Gd) (te : TE) (G : List Sl) (d : PyData) : Prop := ∀ σ F H, Holds g G σ F H → ∀ Q : VK, (∀ v F' H', Stp F H F' H' → Dp g.K F' v d → Q v H') → te σ H Q
/-- te gives d, for the moment -/
def B (g : Gd) (te : TE) (G : List Sl) (d : PyData) : Prop := ∀ σ F H, Holds g G σ F H → ∀ Q : VK, (∀ v F' H', Stp F H F' H' → Dp g.K H' v d → Q v H') → te σ H Q
/-- te gives a new list of ours -/
def EL (g : Gd) (te : TE) (G : List Sl) (ds : List PyData) : Prop := ∀ σ F H, Holds g G σ F H → ∀ Q : VK, (∀ p vs F' H', Stp F H F' H' → H p = none → F' p = none → H' p = some (.lst vs) → DpAll g.K F' vs ds → Q (.ref p) H') → te σ H Q
def T (g : Gd) (tt : TT) (G : List Sl) (b : Bool) : Prop := ∀ σ F H, Holds g G σ F H → ∀ Q : Bool → Hp → Prop, (∀ F' H', Stp F H F' H' → Q b H') → tt σ H Q
def A (g : Gd) (ta : TA) (G : List Sl) (ds : List PyData) : Prop := ∀ σ F H, Holds g G σ F H → ∀ Q : List V → Hp → Prop, (∀ vs F' H', Stp F H F' H' → DpAll g.K F' vs ds → Q vs H') → ta σ H Q
def AB (g : Gd) (ta : TA) (G : List Sl) (ds : List PyData) : Prop := ∀ σ F H, Holds g G σ F H → ∀ Q : List V → Hp → Prop, (∀ vs F' H', Stp F H F' H' → DpAll g.K H' vs ds → Q vs H') → ta σ H Q
/-- a two-place operation on data -/
def R (g : Gd) (r : R2) (x y d : PyData) : Prop := ∀ u v F H, Sub F H → Dp g.K F u x → Dp g.K F v y → ∀ Q : VK, (∀ z F' H', Stp F H F' H' → Dp g.K F' z d → Q z H') → r u v H Q
/-- .. that makes a new list -/
def RL (g : Gd) (r : R2) (x y : PyData) (ds : List PyData) : Prop := ∀ u v F H, Sub F H → Dp g.K F u x → Dp g.K F v y → ∀ Q : VK, (∀ p vs, H p = none → DpAll g.K F vs ds → Q (.ref p) (upd H p (.lst vs))) → r u v H Q
/-- .. that asks only -/
def RB (g : Gd) (r : R2) (x y d : PyData) : Prop := ∀ u v H, Dp g.K H u x → Dp g.K H v y → ∀ Q : VK, (∀ z, Dp g.K H z d → Q z H) → r u v H Q
def C1 (g : Gd) (r : List V → Hp → VK → Prop) (xs : List PyData) (d : PyData) : Prop := ∀ vs H, DpAll g.K H vs xs → ∀ Q : VK, (∀ z, Dp g.K H z d → Q z H) → r vs H Q
section
variable {g : Gd} {G : List Sl} {te ta tb tc : TE} {tt tu : TT} {d x y z : PyData} {ds : List PyData} {i : Nat}
theorem E.b (h : E g te G d) : B g te G d := fun σ F H hh Q q => h σ F H hh Q fun v F' H' s hd => q v F' H' s (s.i.ex.dp d v hd)
theorem b_of (h : E g te G d) : B g te G d := h.b
theorem B.e (h : B g te G d) (hs : scalD d = true) : E g te G d := fun σ F H hh Q q => h σ F H hh Q fun v F' H' s hd => q v F' H' s (dp_scal hs hd)
theorem EL.e (h : EL g te G ds) : E g te G (.list ds) := fun σ F H hh Q q => h σ F H hh Q fun p vs F' H' s h0 hF hH hd => by
  have e : Ex F' (upd F' p (.lst vs)) := fun a u q _ => by rw [upd_ne (ne_of_none q hF)]; exact q
  refine q (.ref p) (upd F' p (.lst vs)) H' ⟨s.f.trans e, ⟨fun a u q n => ?_, fun a ps q => ?_⟩, s.h, s.s, s.t, fun a u q n => ?_⟩ (.lst (.inl (.inl upd_same)) (e.dps ds vs hd))
  · by_cases ha : a = p
    · subst ha; rw [upd_same] at q; cases q; exact hH
    · rw [upd_ne ha] at q; exact s.i.ex a u q n
  · by_cases ha : a = p
    · subst ha; rw [upd_same] at q; cases q
    · rw [upd_ne ha] at q; exact s.i.nt a ps q
  · rw [upd_ne (ne_of_none q h0)]; exact s.n a u q n
theorem EL.b (h : EL g te G ds) : B g te G (.list ds) := h.e.b
theorem e_var (h : G[i]? = some (.fz d)) : E g (tVar i) G d := fun σ F H hh Q q => by
  obtain ⟨o, e, v, ev, hd⟩ := hh.at_ h
  subst ev
  exact ⟨v, e, q v F H (Stp.refl hh.st.i) hd⟩
theorem b_ow (h : G[i]? = some (.ow ds)) : B g (tVar i) G (.list ds) := fun σ F H hh Q q => by
  obtain ⟨o, e, p, vs, ev, h0, hF, hH, hd⟩ := hh.at_ h
  subst ev
  exact ⟨.ref p, e, q _ F H (Stp.refl hh.st.i) (.lst (.inl (.inl hH)) (hh.st.i.ex.dps ds vs hd))⟩
theorem e_int {k : Int} : E g (tC (.int k)) G (.int k) := fun _ F H hh _ q => q _ F H (Stp.refl hh.st.i) (.int k)
theorem e_str {k : Str} : E g (tC (.str k)) G (.str k) := fun _ F H hh _ q => q _ F H (Stp.refl hh.st.i) (.str k)
theorem e_bl {k : Bool} : E g (tC (.bl k)) G (.bool k) := fun _ F H hh _ q => q _ F H (Stp.refl hh.st.i) (.bl k)
theorem e_non : E g (tC .non) G .none := fun _ F H hh _ q => q _ F H (Stp.refl hh.st.i) .non
theorem e_op {r : R2} (ha : E g ta G x) (hb : E g tb G y) (hr : R g r x y d) : E g (tOp r ta tb) G d := fun σ F H hh Q q =>
  ha σ F H hh _ fun u F1 H1 s1 d1 => hb σ F1 H1 (hh.mono s1) _ fun v F2 H2 s2 d2 => hr u v F2 H2 s2.i (s2.f.dp x u d1) d2 Q fun z F3 H3 s3 d3 => q z F3 H3 ((s1.trans s2).trans s3) d3
theorem old_free {F H F' H' : Hp} (s : Stp F H F' H') {p : Addr} (h : H' p = none) : H p = none := by
  cases z : H p with
  | none => rfl
  | some o => obtain ⟨o', e⟩ := s.s p o z; rw [h] at e; cases e
theorem el_op {r : R2} (ha : E g ta G x) (hb : E g tb G y) (hr : RL g r x y ds) : EL g (tOp r ta tb) G ds := fun σ F H hh Q q =>
  ha σ F H hh _ fun u F1 H1 s1 d1 => hb σ F1 H1 (hh.mono s1) _ fun v F2 H2 s2 d2 => hr u v F2 H2 s2.i (s2.f.dp x u d1) d2 Q fun p vs hp hd =>
    q p vs F2 _ ((s1.trans s2).trans (Stp.mine s2.i hp)) (old_free (s1.trans s2) hp) (s2.i.free hp) upd_same hd
theorem b_op {r : R2} (ha : B g ta G x) (hb : B g tb G y) (hr : RB g r x y d) (hs : scalD d = true) : E g (tOp r ta tb) G d := fun σ F H hh Q q =>
  ha σ F H hh _ fun u F1 H1 s1 d1 => hb σ F1 H1 (hh.mono s1) _ fun v F2 H2 s2 d2 => hr u v H2 (s2.h.dp x u d1) d2 Q fun z d3 => q z F2 H2 (s1.trans s2) (dp_scal hs d3)
end
end DW

namespace DW
open PySem PySem.Spec PyProof.Rows L2

/-! ### operators over several kinds -/
def rAddS : R2 := fun x y H Q => ∃ i j, x = .str i ∧ y = .str j ∧ i.length + j.length ≤ sizeLine ∧ Q (.str (i ++ j)) H
/-- list + list, both read -/
def rAddL (K : PySem.W.Frag) : R2 := fun x y H Q => ∃ l b xs zs, x = .ref l ∧ y = .ref b ∧ SqL K H l xs ∧ SqL K H b zs ∧ xs.length + zs.length ≤ sizeLine ∧ ∀ p, H p = none → Q (.ref p) (upd H p (.lst (xs ++ zs)))
theorem op_catL {X : Cx} : OpR X (binaryOp .Add) (rAddL X.K) := by
  intro pins s σ H x y v u Q I rx ry h
  obtain ⟨l, b, xs, zs, rfl, rfl, hH, hB, hz, q⟩ := h
  cases rx
  cases ry
  obtain ⟨its, r, pl, z⟩ := I.list hH
  obtain ⟨its2, r2, pl2, z2⟩ := I.list hB
  have l1 := r.length
  have l2 := r2.length
  obtain ⟨⟨cls, dd, data, sl⟩, ho, hc, n, hd⟩ := id pl.isList
  obtain ⟨⟨cls2, dd2, data2, sl2⟩, ho2, hc2, n2, hd2⟩ := id pl2.isList
  simp only at hc hd hc2 hd2
  subst hc hd hc2 hd2
  have e : its.toArray ++ its2.toArray = (its ++ its2).toArray := by simp
  refine concat_meets ⟨_, ho, rfl⟩ ⟨_, ho2, rfl⟩ noFill_list_add seq_list_add PySem.F.slot_list_add PySem.F.entry_list_add (PySem.F.args_list_add_2 _ _) (list_addW l b its.toArray its2.toArray n n2 dd dd2 sl sl2 (by simp only [List.size_toArray]; omega)) ⟨ho, ho2, ?_⟩
  rw [e]
  exact ⟨.ref _, _, I.lnew (t' := s.toks) (r.append r2) (by rw [List.length_append]; omega), rfl, q _ I.fresh⟩
abbrev rAddU (K : PySem.W.Frag) : R2 := fun x y H Q => rI0 (fun i j => .int (i + j)) x y H Q ∨ (rAddS x y H Q ∨ (rAddL K x y H Q ∨ rCatT K x y H Q))
theorem uAdd {X : Cx} : OpR X (binaryOp .Add) (rAddU X.K) := op_add.or (op_add_str.or (op_catL.or op_catT))
/-- text * int -/
def mulS (x : Str) (n : Int) : Str := if n < 1 then Str.empty else if (n == 1 || x.length == 0) = true then x else ⟨(List.replicate n.toNat x.cps).foldl (· ++ ·) #[]⟩
def rMulS : R2 := fun x y H Q => ∃ i n, x = .str i ∧ y = .int n ∧ 0 ≤ n ∧ n ≤ 1000 ∧ i.length ≤ 1000 ∧ Q (.str (mulS i n)) H
theorem op_mulS {X : Cx} : OpR X (binaryOp .Mult) rMulS := by
  intro pins s σ H x y v u Q I rx ry h
  obtain ⟨i, n, rfl, rfl, h0, h1, hl, q⟩ := h
  obtain ⟨t, rfl⟩ := rx
  obtain ⟨t', rfl⟩ := ry
  have e1 : (decide (n < -(2 ^ 63 : Int)) || decide (n ≥ 2 ^ 63)) = false := by
    rw [decide_eq_false (by omega), decide_eq_false (by omega)]; rfl
  have ht : Builtin.Str.tooLong (i.length * n.toNat) = false := by
    have h3 : i.length * n.toNat ≤ 1000 * 1000 := Nat.mul_le_mul hl (by omega)
    have h4 : sizeLine = 16777216 := sizeLine_eq
    unfold Builtin.Str.tooLong
    exact decide_eq_false (by omega)
  refine PySem.P.mul_str e1 (fun h _ => ?_) (fun h _ => ?_) ?_
  · have h2 : (i.length : Int) * n ≤ 1000 * 1000 := Int.mul_le_mul (by omega) h1 h0 (by decide)
    have h3 : (i.length : Int) ≤ (2 ^ 63 - 1) / n := Int.le_ediv_of_mul_le (by omega) (Int.le_trans h2 (by decide))
    omega
  · exact ht
  · unfold mulS at q
    split
    · rename_i hh; rw [if_pos hh] at q; exact ⟨by decide, ⟨.str _, H, I.tok _, ⟨_, rfl⟩, q⟩⟩
    · rename_i hh; rw [if_neg hh] at q
      split
      · rename_i h4; rw [if_pos h4] at q; exact ⟨.str _, H, I, ⟨_, rfl⟩, q⟩
      · rename_i h4; rw [if_neg h4] at q; exact ⟨fits_reps ht, ⟨.str _, H, I.tok _, ⟨_, rfl⟩, q⟩⟩
abbrev rMulU : R2 := fun x y H Q => rI CMul (fun i j => .int (i * j)) x y H Q ∨ rMulS x y H Q
theorem uMul {X : Cx} : OpR X (binaryOp .Mult) rMulU := op_mul.or op_mulS
def rLtS : R2 := fun x y H Q => ∃ i j, x = .str i ∧ y = .str j ∧ Q (.bl (decide (i.cps.toList < j.cps.toList))) H
abbrev rLtU : R2 := fun x y H Q => rI0 (fun i j => .bl (decide (i < j))) x y H Q ∨ rLtS x y H Q
theorem uLt {X : Cx} : OpR X (compareOp .Lt) rLtU := op_lt.or op_lt_str
def rInSg : R2 := fun x y H Q => ∃ (c : Nat) (z : Str), x = .str ⟨#[c]⟩ ∧ y = .str z ∧ Q (.bl (decide (c ∈ z.cps.toList))) H
def rNiSg : R2 := fun x y H Q => ∃ (c : Nat) (z : Str), x = .str ⟨#[c]⟩ ∧ y = .str z ∧ Q (.bl (!decide (c ∈ z.cps.toList))) H
abbrev rInU (K : PySem.W.Frag) : R2 := fun x y H Q => rIn K false x y H Q ∨ rInSg x y H Q
abbrev rNiU (K : PySem.W.Frag) : R2 := fun x y H Q => rIn K true x y H Q ∨ rNiSg x y H Q
theorem uIn {X : Cx} : OpR X (compareOp .In) (rInU X.K) := op_in_seq.or op_in_sign
theorem uNi {X : Cx} : OpR X (compareOp .NotIn) (rNiU X.K) := op_notIn_seq.or op_notIn_sign

section
variable {g : Gd} {G : List Sl} {te ta tb tc : TE} {tt tu : TT} {d x y z : PyData} {ds es : List PyData} {i : Nat}
theorem add_i {a b : Int} : R g (rAddU g.K) (.int a) (.int b) (.int (a + b)) := fun u v F H e hu hv Q q => by
  cases hu; cases hv
  exact .inl ⟨a, b, rfl, rfl, q _ F H (Stp.refl e) (.int _)⟩
theorem add_s {a b : Str} (h : a.length + b.length ≤ 100000) : R g (rAddU g.K) (.str a) (.str b) (.str (a ++ b)) := fun u v F H e hu hv Q q => by
  cases hu; cases hv
  exact .inr (.inl ⟨a, b, rfl, rfl, Nat.le_trans h (by decide), q _ F H (Stp.refl e) (.str _)⟩)
theorem add_l (h : ds.length + es.length ≤ 100000) : RL g (rAddU g.K) (.list ds) (.list es) (ds ++ es) := fun u v F H e hu hv Q q => by
  obtain ⟨a, vs, rfl, h1, h2⟩ := dp_sq hu
  obtain ⟨b, ws, rfl, h3, h4⟩ := dp_sq hv
  exact .inr (.inr (.inl ⟨a, b, vs, ws, rfl, rfl, e.ex.l h1, e.ex.l h3, by rw [dps_len h2, dps_len h4]; exact Nat.le_trans h (by decide), fun p hp => q p _ hp (dps_app h2 h4)⟩))
theorem sub_i {a b : Int} : R g (rI0 fun i j => .int (i - j)) (.int a) (.int b) (.int (a - b)) := fun u v F H e hu hv Q q => by
  cases hu; cases hv
  exact ⟨a, b, rfl, rfl, q _ F H (Stp.refl e) (.int _)⟩
theorem mul_i {a b : Int} (h : CMul a b) : R g rMulU (.int a) (.int b) (.int (a * b)) := fun u v F H e hu hv Q q => by
  cases hu; cases hv
  exact .inl ⟨a, b, rfl, rfl, h, q _ F H (Stp.refl e) (.int _)⟩
theorem mul_s {a : Str} {b : Int} (h0 : 0 ≤ b) (h1 : b ≤ 1000) (hl : a.length ≤ 1000) : R g rMulU (.str a) (.int b) (.str (mulS a b)) := fun u v F H e hu hv Q q => by
  cases hu; cases hv
  exact .inr ⟨a, b, rfl, rfl, h0, h1, hl, q _ F H (Stp.refl e) (.str _)⟩
theorem div_i {a b : Int} (h : 0 < b) (h2 : b < 1073741824) : R g (rI CDiv fun i j => .int (i / j)) (.int a) (.int b) (.int (a / b)) := fun u v F H e hu hv Q q => by
  cases hu; cases hv
  exact ⟨a, b, rfl, rfl, ⟨h, h2⟩, q _ F H (Stp.refl e) (.int _)⟩
theorem mod_i {a b : Int} (h : 0 < b) : R g (rI (fun _ j => 0 < j) fun i j => .int (i % j)) (.int a) (.int b) (.int (a % b)) := fun u v F H e hu hv Q q => by
  cases hu; cases hv
  exact ⟨a, b, rfl, rfl, h, q _ F H (Stp.refl e) (.int _)⟩
theorem pow_i {a b : Int} (h : CPow a b) : R g (rI CPow fun i j => .int (i ^ j.toNat)) (.int a) (.int b) (.int (a ^ b.toNat)) := fun u v F H e hu hv Q q => by
  cases hu; cases hv
  exact ⟨a, b, rfl, rfl, h, q _ F H (Stp.refl e) (.int _)⟩
theorem lt_i {a b : Int} : RB g rLtU (.int a) (.int b) (.bool (decide (a < b))) := fun u v H hu hv Q q => by
  cases hu; cases hv
  exact .inl ⟨a, b, rfl, rfl, q _ (.bl _)⟩
theorem lt_s {a b : Str} : RB g rLtU (.str a) (.str b) (.bool (decide (a.cps.toList < b.cps.toList))) := fun u v H hu hv Q q => by
  cases hu; cases hv
  exact .inr ⟨a, b, rfl, rfl, q _ (.bl _)⟩
theorem le_i {a b : Int} : RB g (rI0 fun i j => .bl (decide (i ≤ j))) (.int a) (.int b) (.bool (decide (a ≤ b))) := fun u v H hu hv Q q => by
  cases hu; cases hv
  exact ⟨a, b, rfl, rfl, q _ (.bl _)⟩
theorem gt_i {a b : Int} : RB g (rI0 fun i j => .bl (decide (j < i))) (.int a) (.int b) (.bool (decide (b < a))) := fun u v H hu hv Q q => by
  cases hu; cases hv
  exact ⟨a, b, rfl, rfl, q _ (.bl _)⟩
theorem ge_i {a b : Int} : RB g (rI0 fun i j => .bl (decide (j ≤ i))) (.int a) (.int b) (.bool (decide (b ≤ a))) := fun u v H hu hv Q q => by
  cases hu; cases hv
  exact ⟨a, b, rfl, rfl, q _ (.bl _)⟩
theorem eq_d (hx : SeqAt.shaped x = true) (hy : SeqAt.shaped y = true) : RB g (rEqD g.K) x y (.bool (PyData.eqv x y)) := fun u v H hu hv Q q => ⟨x, y, hu, hv, hx, hy, q _ (.bl _)⟩
theorem ne_d (hx : SeqAt.shaped x = true) (hy : SeqAt.shaped y = true) : RB g (rNeD g.K) x y (.bool (!PyData.eqv x y)) := fun u v H hu hv Q q => ⟨x, y, hu, hv, hx, hy, q _ (.bl _)⟩
/-- the V of a flat datum -/
def flD : PyData → V
  | .none => .non
  | .bool b => .bl b
  | .int i => .int i
  | .str s => .str s
  | _ => .non
theorem fl_of {K : PySem.W.Frag} {H : Hp} {v : V} : ∀ {d : PyData}, scalD d = true → Dp K H v d → v = flD d ∧ flatV v = true
  | .none, _, h => by cases h; exact ⟨rfl, rfl⟩
  | .bool b, _, h => by cases h; exact ⟨rfl, rfl⟩
  | .int i, _, h => by cases h; exact ⟨rfl, rfl⟩
  | .str x, _, h => by cases h; exact ⟨rfl, rfl⟩
  | .list _, e, _ => by cases e
  | .tuple _, e, _ => by cases e
  | .dict _, e, _ => by cases e
theorem fls_of {K : PySem.W.Frag} {H : Hp} : ∀ {vs : List V} {ds : List PyData}, ds.all scalD = true → DpAll K H vs ds → vs = ds.map flD ∧ vs.all flatV = true
  | _, _, _, .nil => ⟨rfl, rfl⟩
  | _, _, e, .cons h t => by
    rw [List.all_cons, Bool.and_eq_true] at e
    obtain ⟨e1, e2⟩ := fl_of e.1 h
    obtain ⟨e3, e4⟩ := fls_of e.2 t
    exact ⟨by rw [e1, e3]; rfl, by rw [List.all_cons, e2, e4]; rfl⟩
def inD (x : PyData) (ds : List PyData) : Bool := inV (flD x) (ds.map flD)
theorem in_l (hx : scalD x = true) (hd : ds.all scalD = true) : RB g (rInU g.K) x (.list ds) (.bool (inD x ds)) := fun u v H hu hv Q q => by
  obtain ⟨a, vs, rfl, h1, h2⟩ := dp_sq hv
  obtain ⟨e1, f1⟩ := fl_of hx hu
  obtain ⟨e2, f2⟩ := fls_of hd h2
  refine .inl ⟨a, vs, rfl, .inl h1, f1, f2, ?_⟩
  rw [e1, e2]; exact q _ (.bl _)
theorem in_t (hx : scalD x = true) (hd : ds.all scalD = true) : RB g (rInU g.K) x (.tuple ds) (.bool (inD x ds)) := fun u v H hu hv Q q => by
  obtain ⟨a, vs, rfl, h1, h2⟩ := dp_tq hv
  obtain ⟨e1, f1⟩ := fl_of hx hu
  obtain ⟨e2, f2⟩ := fls_of hd h2
  refine .inl ⟨a, vs, rfl, .inr h1, f1, f2, ?_⟩
  rw [e1, e2]; exact q _ (.bl _)
theorem ni_l (hx : scalD x = true) (hd : ds.all scalD = true) : RB g (rNiU g.K) x (.list ds) (.bool (!inD x ds)) := fun u v H hu hv Q q => by
  obtain ⟨a, vs, rfl, h1, h2⟩ := dp_sq hv
  obtain ⟨e1, f1⟩ := fl_of hx hu
  obtain ⟨e2, f2⟩ := fls_of hd h2
  refine .inl ⟨a, vs, rfl, .inl h1, f1, f2, ?_⟩
  rw [e1, e2]; exact q _ (.bl _)
theorem ni_t (hx : scalD x = true) (hd : ds.all scalD = true) : RB g (rNiU g.K) x (.tuple ds) (.bool (!inD x ds)) := fun u v H hu hv Q q => by
  obtain ⟨a, vs, rfl, h1, h2⟩ := dp_tq hv
  obtain ⟨e1, f1⟩ := fl_of hx hu
  obtain ⟨e2, f2⟩ := fls_of hd h2
  refine .inl ⟨a, vs, rfl, .inr h1, f1, f2, ?_⟩
  rw [e1, e2]; exact q _ (.bl _)
theorem in_sg {c : Nat} {z : Str} : RB g (rInU g.K) (.str ⟨#[c]⟩) (.str z) (.bool (decide (c ∈ z.cps.toList))) := fun u v H hu hv Q q => by
  cases hu; cases hv
  exact .inr ⟨c, z, rfl, rfl, q _ (.bl _)⟩
theorem ni_sg {c : Nat} {z : Str} : RB g (rNiU g.K) (.str ⟨#[c]⟩) (.str z) (.bool (!decide (c ∈ z.cps.toList))) := fun u v H hu hv Q q => by
  cases hu; cases hv
  exact .inr ⟨c, z, rfl, rfl, q _ (.bl _)⟩
/-- an item -/
theorem ix_l {k : Int} (h : atI ds k = some d) : R g (rIx g.K) (.list ds) (.int k) d := fun u v F H e hu hv Q q => by
  obtain ⟨a, vs, rfl, h1, h2⟩ := dp_sq hu
  cases hv
  unfold atI at h
  rw [← dps_len h2] at h
  cases hi : ixN vs.length k with
  | none => rw [hi] at h; cases h
  | some j =>
    rw [hi] at h
    obtain ⟨w, e1, e2⟩ := dps_get h2 (show ds[j]? = some d from h)
    exact .inl ⟨a, vs, k, w, rfl, rfl, e.ex.l h1, by unfold atI; rw [hi]; exact e1, q w F H (Stp.refl e) e2⟩
theorem ix_t {k : Int} (h : atI ds k = some d) : R g (rIx g.K) (.tuple ds) (.int k) d := fun u v F H e hu hv Q q => by
  obtain ⟨a, vs, rfl, h1, h2⟩ := dp_tq hu
  cases hv
  unfold atI at h
  rw [← dps_len h2] at h
  cases hi : ixN vs.length k with
  | none => rw [hi] at h; cases h
  | some j =>
    rw [hi] at h
    obtain ⟨w, e1, e2⟩ := dps_get h2 (show ds[j]? = some d from h)
    exact .inr (.inl ⟨a, vs, k, w, rfl, rfl, e.ex.t h1, by unfold atI; rw [hi]; exact e1, q w F H (Stp.refl e) e2⟩)
theorem ix_s {s : Str} {k : Int} {c : Nat} (hl : s.length ≤ 100000) (h : atI s.cps.toList k = some c) : R g (rIx g.K) (.str s) (.int k) (.str ⟨#[c]⟩) := fun u v F H e hu hv Q q => by
  cases hu; cases hv
  exact .inr (.inr ⟨s, k, c, rfl, rfl, Nat.le_trans hl (by decide), h, q _ F H (Stp.refl e) (.str _)⟩)
/-- an item of our own list -/
theorem e_ixo {j : Nat} {k : Int} (h : G[j]? = some (.ow ds)) (hb : E g tb G (.int k)) (hk : atI ds k = some d) : E g (tOp (rIx g.K) (tVar j) tb) G d := fun σ F H hh Q q => by
  obtain ⟨o, e, p, vs, ev, h0, hF, hH, hd⟩ := hh.at_ h
  subst ev
  refine ⟨.ref p, e, hb σ F H hh _ fun v F1 H1 s1 d1 => ?_⟩
  cases d1
  unfold atI at hk
  rw [← dps_len hd] at hk
  cases hi : ixN vs.length k with
  | none => rw [hi] at hk; cases hk
  | some j =>
    rw [hi] at hk
    obtain ⟨w, e1, e2⟩ := dps_get hd (show ds[j]? = some d from hk)
    exact .inl ⟨p, vs, k, w, rfl, rfl, .inl (.inl (s1.h.lst hH)), by unfold atI; rw [hi]; exact e1, q w F1 H1 s1 (s1.f.dp d w e2)⟩

/-! ### unary, and, or, not, if -/
theorem e_neg {k : Int} (h : E g te G (.int k)) : E g (tUn (rU fun i => .int (-i)) te) G (.int (-k)) := fun σ F H hh Q q =>
  h σ F H hh _ fun v F1 H1 s1 d1 => by cases d1; exact ⟨k, rfl, q _ F1 H1 s1 (.int _)⟩
theorem t_test {b : Bool} (h : E g te G (.bool b)) : T g (tTest te) G b := fun σ F H hh Q q => h σ F H hh _ fun v F1 H1 s1 d1 => by cases d1; exact ⟨b, rfl, q F1 H1 s1⟩
theorem t_B {b : Bool} (h : E g te G (.bool b)) : T g (tB te) G b := fun σ F H hh Q q => h σ F H hh _ fun v F1 H1 s1 d1 => by cases d1; exact ⟨b, rfl, q F1 H1 s1⟩
theorem t_and {a b : Bool} (h1 : T g tt G a) (h2 : a = true → T g tu G b) : T g (tAnd tt tu) G (a && b) := fun σ F H hh Q q => h1 σ F H hh _ fun F1 H1 s1 => by
  cases a with
  | true => exact h2 rfl σ F1 H1 (hh.mono s1) Q fun F2 H2 s2 => q F2 H2 (s1.trans s2)
  | false => exact q F1 H1 s1
theorem t_or {a b : Bool} (h1 : T g tt G a) (h2 : a = false → T g tu G b) : T g (tOr tt tu) G (a || b) := fun σ F H hh Q q => h1 σ F H hh _ fun F1 H1 s1 => by
  cases a with
  | true => exact q F1 H1 s1
  | false => exact h2 rfl σ F1 H1 (hh.mono s1) Q fun F2 H2 s2 => q F2 H2 (s1.trans s2)
theorem t_not {a : Bool} (h1 : T g tt G a) : T g (tNot tt) G (!a) := fun σ F H hh Q q => h1 σ F H hh _ fun F1 H1 s1 => q F1 H1 s1
theorem e_andV {a b : Bool} (h1 : E g ta G (.bool a)) (h2 : a = true → E g tb G (.bool b)) : E g (tAndV ta tb) G (.bool (a && b)) := fun σ F H hh Q q => h1 σ F H hh _ fun v F1 H1 s1 d1 => by
  cases d1
  refine ⟨a, rfl, ?_⟩
  cases a with
  | true => exact h2 rfl σ F1 H1 (hh.mono s1) Q fun v F2 H2 s2 => q v F2 H2 (s1.trans s2)
  | false => exact q _ F1 H1 s1 (.bl false)
theorem e_orV {a b : Bool} (h1 : E g ta G (.bool a)) (h2 : a = false → E g tb G (.bool b)) : E g (tOrV ta tb) G (.bool (a || b)) := fun σ F H hh Q q => h1 σ F H hh _ fun v F1 H1 s1 d1 => by
  cases d1
  refine ⟨a, rfl, ?_⟩
  cases a with
  | true => exact q _ F1 H1 s1 (.bl true)
  | false => exact h2 rfl σ F1 H1 (hh.mono s1) Q fun v F2 H2 s2 => q v F2 H2 (s1.trans s2)
theorem e_if {b : Bool} (h : T g tt G b) (h1 : b = true → E g ta G d) (h2 : b = false → E g tb G d) : E g (tIf tt ta tb) G d := fun σ F H hh Q q => h σ F H hh _ fun F1 H1 s1 => by
  cases b with
  | true => exact h1 rfl σ F1 H1 (hh.mono s1) Q fun v F2 H2 s2 => q v F2 H2 (s1.trans s2)
  | false => exact h2 rfl σ F1 H1 (hh.mono s1) Q fun v F2 H2 s2 => q v F2 H2 (s1.trans s2)
theorem e_chain {r r' : R2} {a b : Bool} (ha : B g ta G x) (hb : B g tb G y) (hc : a = true → B g tc G z) (h1 : RB g r x y (.bool a)) (h2 : a = true → RB g r' y z (.bool b)) : E g (tChain r r' ta tb tc) G (.bool (a && b)) := fun σ F H hh Q q =>
  ha σ F H hh _ fun u F1 H1 s1 d1 => hb σ F1 H1 (hh.mono s1) _ fun v F2 H2 s2 d2 => h1 u v H2 (s2.h.dp x u d1) d2 _ fun w dw => by
    cases dw
    refine ⟨a, rfl, ?_⟩
    cases a with
    | true => exact hc rfl σ F2 H2 ((hh.mono s1).mono s2) _ fun u3 F3 H3 s3 d3 => h2 rfl v u3 H3 (s3.h.dp y v d2) d3 Q fun w' dw' => by cases dw'; exact q _ F3 H3 ((s1.trans s2).trans s3) (.bl _)
    | false => exact q _ F2 H2 (s1.trans s2) (.bl false)
/-- truth -/
def truD : PyData → Option Bool
  | .none => some false
  | .bool b => some b
  | .int i => some (i != 0)
  | .str s => if s.length ≤ 100000 then some ((s.length : Int) != 0) else none
  | .list ds => some (!ds.isEmpty)
  | .tuple ds => some (!ds.isEmpty)
  | .dict _ => none
theorem isEmpty_dps {K : PySem.W.Frag} {F : Hp} {vs : List V} {ds : List PyData} (h : DpAll K F vs ds) : vs.isEmpty = ds.isEmpty := by cases h <;> rfl
theorem tru_of {K : PySem.W.Frag} {H : Hp} {v : V} {b : Bool} : ∀ {d : PyData}, truD d = some b → Dp K H v d → TruV K v H b
  | .none, e, h => by cases h; exact (Option.some.inj e).symm
  | .bool _, e, h => by cases h; exact (Option.some.inj e).symm
  | .int _, e, h => by cases h; exact (Option.some.inj e).symm
  | .str s, e, h => by
    cases h
    have e' : (if s.length ≤ 100000 then some ((s.length : Int) != 0) else none) = some b := e
    by_cases hl : s.length ≤ 100000
    · rw [if_pos hl] at e'; exact ⟨Nat.le_trans hl (by decide), (Option.some.inj e').symm⟩
    · rw [if_neg hl] at e'; cases e'
  | .list _, e, h => by
    obtain ⟨a, vs, rfl, h1, h2⟩ := dp_sq h
    exact .inl ⟨vs, h1, by rw [isEmpty_dps h2]; exact (Option.some.inj e).symm⟩
  | .tuple _, e, h => by
    obtain ⟨a, vs, rfl, h1, h2⟩ := dp_tq h
    exact .inr (.inl ⟨vs, h1, by rw [isEmpty_dps h2]; exact (Option.some.inj e).symm⟩)
  | .dict _, e, _ => by cases e
theorem t_truth {b : Bool} (h : B g te G d) (e : truD d = some b) : T g (fun σ H Q => te σ H fun x H' => ∃ k, TruV g.K x H' k ∧ Q k H') G b := fun σ F H hh Q q =>
  h σ F H hh _ fun v F1 H1 s1 d1 => ⟨b, tru_of e d1, q F1 H1 s1⟩
theorem e_notT {b : Bool} (h : B g te G d) (e : truD d = some b) : E g (tNotT g.K te) G (.bool (!b)) := fun σ F H hh Q q =>
  h σ F H hh _ fun v F1 H1 s1 d1 => ⟨b, tru_of e d1, q _ F1 H1 s1 (.bl _)⟩

/-! ### arguments, displays, calls -/
theorem a_nil : A g tNil G [] := fun σ F H hh Q q => q [] F H (Stp.refl hh.st.i) .nil
theorem a_cons {tr : TA} (h : E g te G d) (hr : A g tr G ds) : A g (tCons te tr) G (d :: ds) := fun σ F H hh Q q =>
  h σ F H hh _ fun v F1 H1 s1 d1 => hr σ F1 H1 (hh.mono s1) _ fun vs F2 H2 s2 d2 => q (v :: vs) F2 H2 (s1.trans s2) (.cons (s2.f.dp d v d1) d2)
theorem ab_nil : AB g tNil G [] := fun σ F H hh Q q => q [] F H (Stp.refl hh.st.i) .nil
theorem ab_cons {tr : TA} (h : B g te G d) (hr : AB g tr G ds) : AB g (tCons te tr) G (d :: ds) := fun σ F H hh Q q =>
  h σ F H hh _ fun v F1 H1 s1 d1 => hr σ F1 H1 (hh.mono s1) _ fun vs F2 H2 s2 d2 => q (v :: vs) F2 H2 (s1.trans s2) (.cons (s2.h.dp d v d1) d2)
theorem e_tup {ta : TA} (h : A g ta G ds) (hl : ds.length ≤ 100000) : E g (tTup ta) G (.tuple ds) := fun σ F H hh Q q => h σ F H hh _ fun vs F1 H1 s1 d1 =>
  ⟨by rw [dps_len d1]; exact Nat.le_trans hl (by decide), fun p hp => by
    have st := Stp.new (o := .tup vs) s1.i hp fun _ z => by cases z
    exact q (.ref p) _ _ (s1.trans st) (.tup (.inl (.inl upd_same)) (st.f.dps ds vs d1))⟩
theorem el_lst {ta : TA} (h : A g ta G ds) (hl : ds.length ≤ 100000) : EL g (tLst ta) G ds := fun σ F H hh Q q => h σ F H hh _ fun vs F1 H1 s1 d1 =>
  ⟨by rw [dps_len d1]; exact Nat.le_trans hl (by decide), fun p hp => q p vs F1 _ (s1.trans (Stp.mine s1.i hp)) (old_free s1 hp) (s1.i.free hp) upd_same d1⟩
theorem b_cb {r : List V → Hp → VK → Prop} {ta : TA} (h : AB g ta G ds) (hr : C1 g r ds d) (hs : scalD d = true) : E g (tCB r ta) G d := fun σ F H hh Q q => h σ F H hh _ fun vs F1 H1 s1 d1 =>
  hr vs H1 d1 Q fun z dz => q z F1 H1 s1 (dp_scal hs dz)
theorem ab_one {vs : List V} {H : Hp} {K : PySem.W.Frag} (h : DpAll K H vs [d]) : ∃ v, vs = [v] ∧ Dp K H v d := by
  cases h with
  | cons h t => cases t; exact ⟨_, rfl, h⟩
def rLenU (K : PySem.W.Frag) : List V → Hp → VK → Prop := fun xs H Q => ∃ x n, xs = [x] ∧ LenV K x H n ∧ Q (.int n) H
theorem uLen {X : Cx} : CallR X (.builtin "len") (rLenU X.K) := call_len
theorem len_l : C1 g (rLenU g.K) [.list ds] (.int ds.length) := fun vs H h Q q => by
  obtain ⟨v, rfl, hw⟩ := ab_one h
  obtain ⟨a, ws, rfl, h1, h2⟩ := dp_sq hw
  exact ⟨_, ds.length, rfl, .inl ⟨ws, h1, (dps_len h2).symm⟩, q _ (.int _)⟩
theorem len_t : C1 g (rLenU g.K) [.tuple ds] (.int ds.length) := fun vs H h Q q => by
  obtain ⟨v, rfl, hw⟩ := ab_one h
  obtain ⟨a, ws, rfl, h1, h2⟩ := dp_tq hw
  exact ⟨_, ds.length, rfl, .inr ⟨ws, h1, (dps_len h2).symm⟩, q _ (.int _)⟩
theorem len_s {s : Str} (hl : s.length ≤ 100000) : C1 g (rLenU g.K) [.str s] (.int s.length) := fun vs H h Q q => by
  obtain ⟨v, rfl, hw⟩ := ab_one h
  cases hw
  exact ⟨_, s.length, rfl, ⟨Nat.le_trans hl (by decide), rfl⟩, q _ (.int _)⟩
def rIntU : List V → Hp → VK → Prop := fun xs H Q => (∃ i, xs = [.int i] ∧ Q (.int i) H) ∨ ∃ k, xs = [.bl k] ∧ Q (.int (if k then 1 else 0)) H
theorem uInt {X : Cx} : CallR X (.type "int") rIntU := call_int1
theorem int_i {k : Int} : C1 g rIntU [.int k] (.int k) := fun vs H h Q q => by
  obtain ⟨v, rfl, hw⟩ := ab_one h
  cases hw
  exact .inl ⟨k, rfl, q _ (.int _)⟩
/-- list(xs), tuple(xs) -/
def rListU (K : PySem.W.Frag) : List V → Hp → VK → Prop := fun xs H Q => ∃ p ys, xs = [.ref p] ∧ (SqL K H p ys ∨ SqT K H p ys) ∧ ∀ l, H l = none → Q (.ref l) (upd H l (.lst ys))
theorem uList {X : Cx} : CallR X (.type "list") (rListU X.K) := call_list_of
theorem el_list (h : E g te G (.list ds)) : EL g (tCB (rListU g.K) (tCons te tNil)) G ds := fun σ F H hh Q q => h σ F H hh _ fun v F1 H1 s1 d1 => by
  obtain ⟨a, vs, rfl, h1, h2⟩ := dp_sq d1
  exact ⟨a, vs, rfl, .inl (s1.i.ex.l h1), fun p hp => q p vs F1 _ (s1.trans (Stp.mine s1.i hp)) (old_free s1 hp) (s1.i.free hp) upd_same h2⟩
theorem el_listT (h : E g te G (.tuple ds)) : EL g (tCB (rListU g.K) (tCons te tNil)) G ds := fun σ F H hh Q q => h σ F H hh _ fun v F1 H1 s1 d1 => by
  obtain ⟨a, vs, rfl, h1, h2⟩ := dp_tq d1
  exact ⟨a, vs, rfl, .inr (s1.i.ex.t h1), fun p hp => q p vs F1 _ (s1.trans (Stp.mine s1.i hp)) (old_free s1 hp) (s1.i.free hp) upd_same h2⟩
theorem el_listO {j : Nat} (h : G[j]? = some (.ow ds)) : EL g (tCB (rListU g.K) (tCons (tVar j) tNil)) G ds := fun σ F H hh Q q => by
  obtain ⟨o, e, p, vs, ev, h0, hF, hH, hd⟩ := hh.at_ h
  subst ev
  exact ⟨.ref p, e, p, vs, rfl, .inl (.inl (.inl hH)), fun l hl => q l vs F _ (Stp.mine hh.st.i hl) hl (hh.st.i.free hl) upd_same hd⟩
def rTupU (K : PySem.W.Frag) : List V → Hp → VK → Prop := fun xs H Q => ∃ p ys, xs = [.ref p] ∧ ((SqL K H p ys ∧ ∀ l, H l = none → Q (.ref l) (upd H l (.tup ys))) ∨ (SqT K H p ys ∧ Q (.ref p) H))
theorem uTup {X : Cx} : CallR X (.type "tuple") (rTupU X.K) := call_tuple_of
theorem e_tupL (h : EL g te G ds) : E g (tCB (rTupU g.K) (tCons te tNil)) G (.tuple ds) := fun σ F H hh Q q => h σ F H hh _ fun p vs F1 H1 s1 h0 hF hH d1 =>
  ⟨p, vs, rfl, .inl ⟨.inl (.inl hH), fun l hl => by
    have st := Stp.new (o := .tup vs) s1.i hl fun _ z => by cases z
    exact q (.ref l) _ _ (s1.trans st) (.tup (.inl (.inl upd_same)) (st.f.dps ds vs d1))⟩⟩
theorem e_tupT (h : E g te G (.tuple ds)) : E g (tCB (rTupU g.K) (tCons te tNil)) G (.tuple ds) := fun σ F H hh Q q => h σ F H hh _ fun v F1 H1 s1 d1 => by
  obtain ⟨a, vs, rfl, h1, h2⟩ := dp_tq d1
  exact ⟨a, vs, rfl, .inr ⟨s1.i.ex.t h1, q _ F1 H1 s1 (.tup h1 h2)⟩⟩
/-! slices -/
def cutD (ds : List PyData) (lo hi : Option Int) : List PyData := (ds.drop (HT.sIx ds.length 0 lo)).take (HT.sIx ds.length ds.length hi - HT.sIx ds.length 0 lo)
def O (g : Gd) (to : TO) (G : List Sl) (o : Option Int) : Prop := ∀ σ F H, Holds g G σ F H → ∀ Q : Option Int → Hp → Prop, (∀ F' H', Stp F H F' H' → Q o H') → to σ H Q
theorem o_none : O g tNoPart G none := fun σ F H hh Q q => q F H (Stp.refl hh.st.i)
theorem o_some {k : Int} (h : E g te G (.int k)) : O g (tPart te) G (some k) := fun σ F H hh Q q => h σ F H hh _ fun v F1 H1 s1 d1 => by cases d1; exact ⟨k, rfl, q F1 H1 s1⟩
def rSlU (K : PySem.W.Frag) : V → Option Int → Option Int → Hp → VK → Prop := fun x lo hi H Q => rSlL K x lo hi H Q ∨ rSlS x lo hi H Q
theorem SlR.or {X : Cx} {r r' : V → Option Int → Option Int → Hp → VK → Prop} (h : SlR X r) (h' : SlR X r') : SlR X (fun x lo hi H Q => r x lo hi H Q ∨ r' x lo hi H Q) := by
  intro pins s σ H x v vl vu lo hi sl Q I rx hs pl pu hq
  rcases hq with hq | hq
  · exact h pins s σ H x v vl vu lo hi sl Q I rx hs pl pu hq
  · exact h' pins s σ H x v vl vu lo hi sl Q I rx hs pl pu hq
theorem uSl {X : Cx} : SlR X (rSlU X.K) := SlR.or sl_list sl_str
theorem cut_dps {K : PySem.W.Frag} {F : Hp} {vs : List V} {lo hi : Option Int} (h : DpAll K F vs ds) : DpAll K F (cutV vs lo hi) (cutD ds lo hi) := by
  unfold cutV cutD
  rw [dps_len h]
  exact dps_take _ (dps_drop _ h)
theorem el_sl {to tp : TO} {lo hi : Option Int} (h : E g te G (.list ds)) (hl : O g to G lo) (hu : O g tp G hi) : EL g (tSl (rSlU g.K) te to tp) G (cutD ds lo hi) := fun σ F H hh Q q =>
  h σ F H hh _ fun v F1 H1 s1 d1 => hl σ F1 H1 (hh.mono s1) _ fun F2 H2 s2 => hu σ F2 H2 ((hh.mono s1).mono s2) _ fun F3 H3 s3 => by
    obtain ⟨a, vs, rfl, h1, h2⟩ := dp_sq (s3.f.dp _ v (s2.f.dp _ v d1))
    have ss := (s1.trans s2).trans s3
    exact .inl ⟨a, vs, rfl, s3.i.ex.l h1, fun p hp => q p _ F3 _ (ss.trans (Stp.mine s3.i hp)) (old_free ss hp) (s3.i.free hp) upd_same (cut_dps h2)⟩
theorem e_slS {to tp : TO} {lo hi : Option Int} {s : Str} (h : E g te G (.str s)) (hz : s.length ≤ 100000) (hl : O g to G lo) (hu : O g tp G hi) : E g (tSl (rSlU g.K) te to tp) G (.str (cutS s lo hi)) := fun σ F H hh Q q =>
  h σ F H hh _ fun v F1 H1 s1 d1 => hl σ F1 H1 (hh.mono s1) _ fun F2 H2 s2 => hu σ F2 H2 ((hh.mono s1).mono s2) _ fun F3 H3 s3 => by
    cases d1
    exact .inr ⟨s, rfl, Nat.le_trans hz (by decide), q _ F3 H3 ((s1.trans s2).trans s3) (.str _)⟩
end
end DW

namespace DW
open PySem PySem.Spec PyProof.Rows L2

/-! ### a list of ours changes -/
theorem Stp.mut {F H F' H' : Hp} {p : Addr} {o1 o2 : HO} (s : Stp F H F' H') (h0 : H p = none) (hF : F' p = none) (hH : H' p = some o1) (nt : ∀ ps, o1 ≠ .tbl ps) : Stp F H F' (upd H' p o2) := by
  refine ⟨s.f, ⟨fun a o q n => ?_, s.i.nt⟩, fun a o q n => ?_, fun a o q => ?_, fun P t => ?_, s.n⟩
  · rw [upd_ne (ne_of_none q hF)]; exact s.i.ex a o q n
  · rw [upd_ne (ne_of_none q h0)]; exact s.h a o q n
  · rw [upd_ne (ne_of_none q h0)]; exact s.s a o q
  · obtain ⟨ps, e, r⟩ := s.t P t
    refine ⟨ps, ?_, r⟩
    rw [upd_ne (fun z => by rw [z, hH] at e; cases e; exact nt ps rfl)]; exact e
theorem Holds.mut {g : Gd} {G : List Sl} {σ : L2.St} {F H : Hp} {p : Addr} {o1 o2 : HO} (h : Holds g G σ F H) (h0 : g.H0 p = none) (hF : F p = none) (hH : H p = some o1) (nt : ∀ ps, o1 ≠ .tbl ps) (new : ∀ (j : Nat) (t : Sl), G[j]? = some t → t.mine = true → σ[j]? ≠ some (some (V.ref p))) :
    Holds g G σ F (upd H p o2) := by
  refine ⟨h.len, h.st.mut h0 hF hH nt, fun j s o e1 e2 => ?_, h.apart, fun P hP => ?_, h.lo⟩
  · have q := h.sl j s o e1 e2
    cases s with
    | un => trivial
    | fz d => exact q
    | raw v => exact q
    | ow ds =>
      obtain ⟨r, vs, e, q0, qF, qH, qd⟩ := q
      subst e
      refine ⟨r, vs, rfl, q0, qF, ?_, qd⟩
      rw [upd_ne (fun z => new j _ e1 rfl (by rw [e2, z]))]; exact qH
    | od ds =>
      obtain ⟨r, vs, e, q0, qF, qH, qd⟩ := q
      subst e
      refine ⟨r, vs, rfl, q0, qF, ?_, qd⟩
      rw [upd_ne (fun z => new j _ e1 rfl (by rw [e2, z]))]; exact qH
    | fk ds => exact q
  · obtain ⟨ps, e, r⟩ := h.tab P hP
    refine ⟨ps, ?_, r⟩
    rw [upd_ne (fun z => by rw [z, hH] at e; cases e; exact nt ps rfl)]; exact e

/-! ### statements -/
def S (g : Gd) (t : TS) (D : Ends) (G : List Sl) : Prop := ∀ σ F H, Holds g G σ F H → t D σ H
def N (g : Gd) (nx : L2.St → Hp → Prop) (G : List Sl) : Prop := ∀ σ F H, Holds g G σ F H → nx σ H
def Rt (g : Gd) (rt : VK) (d : PyData) : Prop := ∀ v F H, Stp g.F0 g.H0 F H → Dp g.K F v d → rt v H
def RtL (g : Gd) (rt : VK) (ds : List PyData) : Prop := ∀ p vs F H, Stp g.F0 g.H0 F H → g.H0 p = none → F p = none → H p = some (.lst vs) → DpAll g.K F vs ds → rt (.ref p) H
/-- targets -/
def Tg (g : Gd) (tg : TG) (d : PyData) (G G' : List Sl) (ix : List Nat) : Prop := ∀ v σ F H, Holds g G σ F H → Dp g.K F v d → ∀ Q : L2.St → Hp → Prop, (∀ σ', Holds g G' σ' F H → (∀ vs : List Nat, (∀ j ∈ ix, j ∈ vs) → wipe σ' vs = wipe σ vs) → Q σ' H) → tg v σ H Q
def Tgs (g : Gd) (tg : TGs) (ds : List PyData) (G G' : List Sl) (ix : List Nat) : Prop := ∀ vs σ F H, Holds g G σ F H → DpAll g.K F vs ds → ∀ Q : L2.St → Hp → Prop, (∀ σ', Holds g G' σ' F H → (∀ vs : List Nat, (∀ j ∈ ix, j ∈ vs) → wipe σ' vs = wipe σ vs) → Q σ' H) → tg vs σ H Q
theorem wipe_set {σ : L2.St} {j : Nat} {v : Option V} : ∀ {vs : List Nat}, j ∈ vs → wipe (σ.set j v) vs = wipe σ vs
  | [], h => by cases h
  | w :: vs, h => by
    unfold wipe
    by_cases hj : j ∈ vs
    · rw [wipe_set hj]
    · have e : j = w := by
        rcases List.mem_cons.mp h with e | e
        · exact e
        · exact absurd e hj
      subst e
      have aux : ∀ (vs : List Nat), j ∉ vs → (wipe (σ.set j v) vs).set j none = (wipe σ vs).set j none := by
        intro vs
        induction vs with
        | nil => intro _; unfold wipe; rw [List.set_set]
        | cons w vs ih =>
          intro hn
          have h1 : j ≠ w := fun z => hn (by rw [z]; exact List.mem_cons_self)
          have h2 : j ∉ vs := fun z => hn (List.mem_cons_of_mem _ z)
          unfold wipe
          rw [List.set_comm _ _ (Ne.symm h1), ih h2, List.set_comm _ _ h1]
      exact aux vs hj
/-- forgetting, slot by slot -/
inductive Wk : List Sl → List Sl → Prop
  | nil : Wk [] []
  | keep {s s' : Sl} {G G' : List Sl} (e : s' = s) (h : Wk G G') : Wk (s :: G) (s' :: G')
  | drop {s : Sl} {G G' : List Sl} (h : Wk G G') : Wk (s :: G) (.un :: G')
theorem Wk.refl : ∀ (G : List Sl), Wk G G
  | [] => .nil
  | _ :: G => .keep rfl (Wk.refl G)
theorem Wk.len : ∀ {G G' : List Sl}, Wk G G' → G'.length = G.length
  | _, _, .nil => rfl
  | _, _, .keep _ h => by rw [List.length_cons, List.length_cons, Wk.len h]
  | _, _, .drop h => by rw [List.length_cons, List.length_cons, Wk.len h]
theorem Wk.ok : ∀ {G G' : List Sl}, Wk G G' → ∀ (j : Nat) (s : Sl), G'[j]? = some s → s = .un ∨ G[j]? = some s
  | _, _, .nil, _, _, e => by simp at e
  | _, _, .keep e _, 0, s, h => by simp at h; subst h; subst e; exact .inr rfl
  | _, _, .keep _ t, j + 1, s, h => by simpa using Wk.ok t j s (by simpa using h)
  | _, _, .drop _, 0, s, h => by simp at h; exact .inl h.symm
  | _, _, .drop t, j + 1, s, h => by simpa using Wk.ok t j s (by simpa using h)
theorem Holds.wk {g : Gd} {G G' : List Sl} {σ : L2.St} {F H : Hp} (h : Holds g G σ F H) (w : Wk G G') : Holds g G' σ F H := h.weak w.len w.ok

section
variable {g : Gd} {G G' G1 : List Sl} {te ta tb tc : TE} {tt : TT} {tu tw : TS} {d x y : PyData} {ds es : List PyData} {i j : Nat} {D : Ends} {tg : TG} {tgs : TGs} {ix ix' : List Nat}
theorem s_seq (h : S g tu { D with nx := tw D } G) : S g (tSeq tu tw) D G := h
theorem s_wk (w : Wk G G') (h : S g tu D G') : S g tu D G := fun σ F H hh => h σ F H (hh.wk w)
theorem n_wk {nx : L2.St → Hp → Prop} (w : Wk G G') (h : N g nx G') : N g nx G := fun σ F H hh => h σ F H (hh.wk w)
theorem n_seq (h : S g tu { D with nx := tw D } G) : N g (tSeq tu tw D) G := h
theorem n_s {t : TS} (h : S g t D G) : N g (t D) G := h
theorem s_next (h : N g D.nx G) : S g tNext D G := h
theorem s_brk (h : N g D.bk G) : S g tBreak D G := h
theorem s_cont (h : N g D.ct G) : S g tCont D G := h
theorem s_asg (h : E g te G d) (k : N g D.nx (G.set i (.fz d))) : S g (tAsg te (gName i)) D G := fun σ F H hh => h σ F H hh _ fun v F1 H1 s1 d1 => k _ F1 H1 ((hh.mono s1).setF d1)
theorem new_ok {σ : L2.St} {F H : Hp} (hh : Holds g G σ F H) {p : Addr} (h0 : H p = none) : ∀ (j : Nat), (∃ t, G[j]? = some t ∧ t.mine = true) → σ[j]? ≠ some (some (.ref p)) := fun j ht e => by
  obtain ⟨t, e1, m⟩ := ht
  have q := hh.sl j t _ e1 e
  cases t with
  | un => cases m
  | fz d => cases m
  | raw v => cases m
  | ow ds =>
    obtain ⟨r, vs, e2, _, _, qH, _⟩ := q
    cases e2
    rw [h0] at qH; cases qH
  | od ds =>
    obtain ⟨r, vs, e2, _, _, qH, _⟩ := q
    cases e2
    rw [h0] at qH; cases qH
  | fk ds => cases m
theorem s_asgL (h : EL g te G ds) (k : N g D.nx (G.set i (.ow ds))) : S g (tAsg te (gName i)) D G := fun σ F H hh => h σ F H hh _ fun p vs F1 H1 s1 h0 hF hH d1 =>
  k _ F1 H1 ((hh.mono s1).setO (old_free hh.st h0) hF hH d1 fun j _ ht => new_ok hh h0 j ht)
theorem s_asgT (h : E g te G d) (ht : Tg g tg d G G' ix) (k : N g D.nx G') : S g (tAsg te tg) D G := fun σ F H hh => h σ F H hh _ fun v F1 H1 s1 d1 => ht v σ F1 H1 (hh.mono s1) d1 _ fun σ' h' _ => k σ' F1 H1 h'
theorem g_name : Tg g (gName i) d G (G.set i (.fz d)) [i] := fun v σ F H hh hd Q q => q _ (hh.setF hd) fun vs hv => wipe_set (hv i List.mem_cons_self)
theorem gs_nil : Tgs g gNil [] G G [] := fun vs σ F H hh hd Q q => by cases hd; exact ⟨rfl, q σ hh fun _ _ => rfl⟩
theorem gs_cons {t : TG} {u : TGs} (h1 : Tg g t d G G1 ix) (h2 : Tgs g u ds G1 G' ix') : Tgs g (gCons t u) (d :: ds) G G' (ix ++ ix') := fun vs σ F H hh hd Q q => by
  cases hd with
  | cons a b =>
    exact ⟨_, _, rfl, h1 _ σ F H hh a _ fun σ1 hh1 w1 => h2 _ σ1 F H hh1 b _ fun σ2 hh2 w2 => q σ2 hh2 fun vs hv =>
      (w2 vs fun j hj => hv j (List.mem_append_right _ hj)).trans (w1 vs fun j hj => hv j (List.mem_append_left _ hj))⟩
theorem g_tup {n : Nat} (h : Tgs g tgs ds G G' ix) (hn : ds.length = n) : Tg g (gTup g.K n tgs) (.tuple ds) G G' ix := fun v σ F H hh hd Q q => by
  obtain ⟨a, vs, rfl, h1, h2⟩ := dp_tq hd
  exact ⟨a, vs, rfl, hh.st.i.ex.t h1, (dps_len h2).trans hn, h vs σ F H hh h2 Q q⟩
theorem s_ret (h : E g te G d) (k : Rt g D.rt d) : S g (tRet te) D G := fun σ F H hh => h σ F H hh _ fun v F1 H1 s1 d1 => k v F1 H1 (hh.st.trans s1) d1
theorem s_retL (h : EL g te G ds) (k : RtL g D.rt ds) : S g (tRet te) D G := fun σ F H hh => h σ F H hh _ fun p vs F1 H1 s1 h0 hF hH d1 => k p vs F1 H1 (hh.st.trans s1) (old_free hh.st h0) hF hH d1
theorem s_retO (h : G[i]? = some (.ow ds)) (k : RtL g D.rt ds) : S g (tRet (tVar i)) D G := fun σ F H hh => by
  obtain ⟨o, e, p, vs, ev, h0, hF, hH, hd⟩ := hh.at_ h
  subst ev
  exact ⟨.ref p, e, k p vs F H hh.st h0 hF hH hd⟩
theorem RtL.of (h : Rt g D.rt (.list ds)) : RtL g D.rt ds := fun p vs F H s h0 hF hH hd => by
  have e : Ex F (upd F p (.lst vs)) := fun a u q _ => by rw [upd_ne (ne_of_none q hF)]; exact q
  refine h (.ref p) (upd F p (.lst vs)) H ⟨s.f.trans e, ⟨fun a u q n => ?_, fun a ps q => ?_⟩, s.h, s.s, s.t, fun a u q n => ?_⟩ (.lst (.inl (.inl upd_same)) (e.dps ds vs hd))
  · by_cases ha : a = p
    · subst ha; rw [upd_same] at q; cases q; exact hH
    · rw [upd_ne ha] at q; exact s.i.ex a u q n
  · by_cases ha : a = p
    · subst ha; rw [upd_same] at q; cases q
    · rw [upd_ne ha] at q; exact s.i.nt a ps q
  · rw [upd_ne (ne_of_none q h0)]; exact s.n a u q n
theorem s_if {b : Bool} (h : T g tt G b) (h1 : b = true → S g tu D G) (h2 : b = false → S g tw D G) : S g (tIfS tt tu tw) D G := fun σ F H hh => h σ F H hh _ fun F1 H1 s1 => by
  cases b with
  | true => exact h1 rfl σ F1 H1 (hh.mono s1)
  | false => exact h2 rfl σ F1 H1 (hh.mono s1)
theorem s_drop (h : E g te G d) (k : N g D.nx G) : S g (tDrop te) D G := fun σ F H hh => h σ F H hh _ fun v F1 H1 s1 _ => k σ F1 H1 (hh.mono s1)
theorem s_aug {f : Int → Int → Int} {a b : Int} (hx : G[i]? = some (.fz (.int a))) (h : E g te G (.int b)) (k : N g D.nx (G.set i (.fz (.int (f a b))))) : S g (tAug i te (ipI f)) D G := fun σ F H hh => by
  obtain ⟨o, e, v, ev, hd⟩ := hh.at_ hx
  subst ev
  cases hd
  refine ⟨.int a, e, h σ F H hh _ fun w F1 H1 s1 d1 => ?_⟩
  cases d1
  exact ⟨a, b, rfl, rfl, k _ F1 H1 ((hh.mono s1).setF (.int _))⟩
/-- xs.append(e) -/
theorem s_app (h : G[i]? = some (.ow ds)) (he : E g te G d) (hz : ds.length < 100000) (k : N g D.nx (G.set i (.ow (ds ++ [d])))) : S g (tDrop (tBM g.K "list" rAppend (tVar i) (tCons te tNil))) D G := fun σ F H hh => by
  obtain ⟨o, e, p, vs, ev, h0, hF, hH, hd⟩ := hh.at_ h
  subst ev
  refine ⟨.ref p, e, .inl ⟨rfl, vs, .inl (.inl hH)⟩, he σ F H hh _ fun v F1 H1 s1 d1 => ?_⟩
  have hH1 := s1.h.lst hH
  have hF1 := s1.n p _ hH hF
  refine ⟨p, vs, v, rfl, rfl, hH1, Nat.lt_of_lt_of_le (by rw [dps_len hd]; exact hz) (by decide), ?_⟩
  have hi : i < σ.length := (List.getElem?_eq_some_iff.mp e).1
  have hs : σ.set i (some (.ref p)) = σ := by
    apply List.ext_getElem?
    intro j
    by_cases hj : i = j
    · subst hj; rw [List.getElem?_set_self hi, e]
    · rw [List.getElem?_set_ne hj]
  have base := hh.mono s1
  -- forget the slot, change, set it again
  have h1 : Holds g (G.set i .un) σ F1 H1 := base.weak (by rw [List.length_set]) fun j s ej => by
    by_cases hj : i = j
    · subst hj; rw [List.getElem?_set_self (by rw [← hh.len]; exact hi)] at ej; cases ej; exact .inl rfl
    · rw [List.getElem?_set_ne hj] at ej; exact .inr ej
  have other : ∀ (j : Nat) (t : Sl), j ≠ i → G[j]? = some t → t.mine = true → σ[j]? ≠ some (some (.ref p)) := fun j t hj ej m z => hj (hh.apart j i t (.ow ds) p ej h m rfl z e)
  have h2 : Holds g (G.set i .un) σ F1 (upd H1 p (.lst (vs ++ [v]))) := h1.mut h0 hF1 hH1 (fun _ z => by cases z) fun j t ej m => by
    by_cases hj : i = j
    · subst hj; rw [List.getElem?_set_self (by rw [← hh.len]; exact hi)] at ej; cases ej; cases m
    · rw [List.getElem?_set_ne hj] at ej; exact other j t (Ne.symm hj) ej m
  have h3 := h2.setO (i := i) (ds := ds ++ [d]) h0 hF1 upd_same (dps_app (s1.f.dps ds vs hd) (.cons d1 .nil)) fun j hj ⟨t, ej, m⟩ => by
    rw [List.getElem?_set_ne (Ne.symm hj)] at ej; exact other j t hj ej m
  rw [List.set_set, hs] at h3
  exact k σ F1 _ h3
/-- a list of ours stays for good -/
theorem s_frz (h : G[i]? = some (.ow ds)) (k : S g tu D (G.set i (.fz (.list ds)))) : S g tu D G := fun σ F H hh => by
  obtain ⟨o, e, p, vs, ev, h0, hF, hH, hd⟩ := hh.at_ h
  subst ev
  have hi : i < σ.length := (List.getElem?_eq_some_iff.mp e).1
  have ex : Ex F (upd F p (.lst vs)) := fun a u q _ => by rw [upd_ne (ne_of_none q hF)]; exact q
  refine k σ (upd F p (.lst vs)) H ⟨by rw [List.length_set]; exact hh.len, ⟨hh.st.f.trans ex, ⟨fun a u q n => ?_, fun a ps q => ?_⟩, hh.st.h, hh.st.s, hh.st.t, fun a u q n => ?_⟩, fun j s o e1 e2 => ?_, fun j k s t q e1 e2 m1 m2 e3 e4 => ?_, hh.tab, hh.lo.trans ex⟩
  · by_cases ha : a = p
    · subst ha; rw [upd_same] at q; cases q; exact hH
    · rw [upd_ne ha] at q; exact hh.st.i.ex a u q n
  · by_cases ha : a = p
    · subst ha; rw [upd_same] at q; cases q
    · rw [upd_ne ha] at q; exact hh.st.i.nt a ps q
  · rw [upd_ne (ne_of_none q h0)]; exact hh.st.n a u q n
  · by_cases hj : i = j
    · subst hj
      rw [List.getElem?_set_self (by rw [← hh.len]; exact hi)] at e1
      cases e1
      rw [e] at e2; cases e2
      exact ⟨_, rfl, .lst (.inl (.inl upd_same)) (ex.dps ds vs hd)⟩
    · rw [List.getElem?_set_ne hj] at e1
      have q := hh.sl j s o e1 e2
      cases s with
      | un => trivial
      | fz d => obtain ⟨v, ev, hv⟩ := q; exact ⟨v, ev, ex.dp d v hv⟩
      | raw v => exact q
      | ow es =>
        obtain ⟨r, ws, er, q0, qF, qH, qd⟩ := q
        subst er
        refine ⟨r, ws, rfl, q0, ?_, qH, ex.dps es ws qd⟩
        rw [upd_ne (fun z => hj (hh.apart i j (.ow ds) (.ow es) p h e1 rfl rfl e (by rw [e2, z])))]; exact qF
      | od es =>
        obtain ⟨r, ws, er, q0, qF, qH, qd⟩ := q
        subst er
        refine ⟨r, ws, rfl, q0, ?_, qH, qd.mono ex⟩
        rw [upd_ne (fun z => hj (hh.apart i j (.ow ds) (.od es) p h e1 rfl rfl e (by rw [e2, z])))]; exact qF
      | fk es =>
        obtain ⟨r, ws, er, hr, qd⟩ := q
        exact ⟨r, ws, er, ex.rd hr (fun _ z => by cases z), qd.mono ex⟩
  · have a1 : i ≠ j := fun z => by subst z; rw [List.getElem?_set_self (by rw [← hh.len]; exact hi)] at e1; cases e1; cases m1
    have a2 : i ≠ k := fun z => by subst z; rw [List.getElem?_set_self (by rw [← hh.len]; exact hi)] at e2; cases e2; cases m2
    rw [List.getElem?_set_ne a1] at e1
    rw [List.getElem?_set_ne a2] at e2
    exact hh.apart j k s t q e1 e2 m1 m2 e3 e4

/-! ### what is walked -/
/-- at any later time the iterator goes through ds -/
structure Wd (K : PySem.W.Frag) (J : It) (ds : List PyData) (F1 : Hp) : Prop where
  go : ∀ i F H, Ex F1 F → Sub F H → i < ds.length → J.go i H
  stop : ∀ F H, Ex F1 F → Sub F H → J.stop ds.length H
  yld : ∀ i F H x H' d, Ex F1 F → Sub F H → ds[i]? = some d → J.yld i H x H' → ∃ F', Stp F H F' H' ∧ Dp K F' x d
def IT (g : Gd) (wi : TI) (G : List Sl) (ds : List PyData) : Prop := ∀ σ F H, Holds g G σ F H → ∀ R : It → Hp → Prop, (∀ J F1 H1, Stp F H F1 H1 → Wd g.K J ds F1 → R J H1) → wi σ H R
theorem it_list (h : E g te G (.list ds)) : IT g (iList g.K te) G ds := fun σ F H hh R r => h σ F H hh _ fun v F1 H1 s1 d1 => by
  obtain ⟨a, vs, rfl, h1, h2⟩ := dp_sq d1
  refine ⟨a, rfl, ⟨vs, s1.i.ex.l h1⟩, r _ F1 H1 s1 ⟨fun i F2 H2 e sb hi => ?_, fun F2 H2 e sb => ?_, fun i F2 H2 x H' d e sb hd hy => ?_⟩⟩
  · have hi' : i < vs.length := by rw [dps_len h2]; exact hi
    exact ⟨vs, vs[i], sb.ex.l (e.l h1), List.getElem?_eq_getElem hi'⟩
  · exact ⟨vs, sb.ex.l (e.l h1), by rw [dps_len h2]; exact Nat.le_refl _⟩
  · obtain ⟨rfl, q⟩ := hy
    obtain ⟨w, e1, e2⟩ := dps_get h2 hd
    have e3 := q vs (sb.ex.l (e.l h1))
    rw [e1] at e3; cases e3
    exact ⟨F2, Stp.refl sb, e.dp d _ e2⟩
theorem it_tup (h : E g te G (.tuple ds)) : IT g (iTup g.K te) G ds := fun σ F H hh R r => h σ F H hh _ fun v F1 H1 s1 d1 => by
  obtain ⟨a, vs, rfl, h1, h2⟩ := dp_tq d1
  refine ⟨a, rfl, ⟨vs, s1.i.ex.t h1⟩, r _ F1 H1 s1 ⟨fun i F2 H2 e sb hi => ?_, fun F2 H2 e sb => ?_, fun i F2 H2 x H' d e sb hd hy => ?_⟩⟩
  · have hi' : i < vs.length := by rw [dps_len h2]; exact hi
    exact ⟨vs, vs[i], sb.ex.t (e.t h1), List.getElem?_eq_getElem hi'⟩
  · exact ⟨vs, sb.ex.t (e.t h1), by rw [dps_len h2]; exact Nat.le_refl _⟩
  · obtain ⟨rfl, q⟩ := hy
    obtain ⟨w, e1, e2⟩ := dps_get h2 hd
    have e3 := q vs (sb.ex.t (e.t h1))
    rw [e1] at e3; cases e3
    exact ⟨F2, Stp.refl sb, e.dp d _ e2⟩
/-- a list or a tuple -/
def iSeq (K : PySem.W.Frag) (te : TE) : TI := fun σ H R => iList K te σ H R ∨ iTup K te σ H R
theorem it_sl (h : E g te G (.list ds)) : IT g (iSeq g.K te) G ds := fun σ F H hh R r => .inl (it_list h σ F H hh R r)
theorem it_st (h : E g te G (.tuple ds)) : IT g (iSeq g.K te) G ds := fun σ F H hh R r => .inr (it_tup h σ F H hh R r)
theorem pi_seq {X : Cx} {tg l : Expr} {tl : TE} (hl : PE X l tl) : PI X tg l (iSeq X.K tl) := ⟨fun pins s σ H R I h => by
  rcases h with h | h
  · exact (pi_list hl).run pins s σ H R I h
  · exact (pi_tup hl).run pins s σ H R I h⟩
/-- the ints from lo on -/
def rngD (lo : Int) (n : Nat) : List PyData := (List.range n).map fun i => .int (lo + (i : Nat))
theorem rngD_len (lo : Int) (n : Nat) : (rngD lo n).length = n := by unfold rngD; rw [List.length_map, List.length_range]
theorem rngD_get {lo : Int} {n i : Nat} {d : PyData} (h : (rngD lo n)[i]? = some d) : i < n ∧ d = .int (lo + (i : Nat)) := by
  unfold rngD at h
  rw [List.getElem?_map] at h
  by_cases hi : i < n
  · rw [List.getElem?_range hi] at h; exact ⟨hi, (Option.some.inj h).symm⟩
  · rw [List.getElem?_eq_none (by rw [List.length_range]; omega)] at h; cases h
theorem wd_rng {K : PySem.W.Frag} {lo : Int} {n : Nat} {F1 : Hp} : Wd K (Itr lo n) (rngD lo n) F1 :=
  ⟨fun i F H _ _ hi => by rw [rngD_len] at hi; exact hi, fun F H _ _ => by rw [rngD_len]; exact Nat.le_refl _, fun i F H x H' d _ sb hd hy => by
    obtain ⟨rfl, rfl⟩ := hy
    obtain ⟨_, rfl⟩ := rngD_get hd
    exact ⟨F, Stp.refl sb, .int _⟩⟩
theorem it_rng1 {ta : TA} {n : Int} (h : A g ta G [.int n]) (h1 : -100000000 ≤ n) (h2 : n ≤ 100000000) : IT g (iRng1 ta) G (rngD 0 n.toNat) := fun σ F H hh R r => h σ F H hh _ fun vs F1 H1 s1 d1 => by
  cases d1 with
  | cons a t => cases t; cases a; exact ⟨n, rfl, by omega, by omega, r _ F1 H1 s1 wd_rng⟩
theorem it_rng2 {ta : TA} {lo hi : Int} (h : A g ta G [.int lo, .int hi]) (h1 : -100000000 ≤ lo) (h2 : lo ≤ 100000000) (h3 : -100000000 ≤ hi) (h4 : hi ≤ 100000000) : IT g (iRng2 ta) G (rngD lo (hi - lo).toNat) := fun σ F H hh R r => h σ F H hh _ fun vs F1 H1 s1 d1 => by
  cases d1 with
  | cons a t =>
    cases t with
    | cons b t => cases t; cases a; cases b; exact ⟨lo, hi, rfl, ⟨by omega, by omega, by omega, by omega⟩, r _ F1 H1 s1 wd_rng⟩

/-! ### for, while -/
/-- some state of the turn holds -/
def nxI (g : Gd) {α : Type} (Iv : α → List Sl) (P : α → Prop) : L2.St → Hp → Prop := fun σ H => ∃ a, P a ∧ ∃ F, Holds g (Iv a) σ F H
theorem n_end {α : Type} {Iv : α → List Sl} {P : α → Prop} (a : α) (p : P a) (w : Wk G (Iv a)) : N g (nxI g Iv P) G := fun σ F H hh => ⟨a, p, F, hh.wk w⟩
theorem s_for {α : Type} {wi : TI} (Iv : Nat → α → List Sl) (P : Nat → α → Prop) (it : IT g wi G ds) (a0 : α) (p0 : P 0 a0) (w0 : Wk G (Iv 0 a0))
    (turn : ∀ F1 (i : Nat) (a : α) (d : PyData), ds[i]? = some d → P i a → ∃ G1 ix, Tg { g with Fl := F1 } tg d (Iv i a) G1 ix ∧
      S { g with Fl := F1 } tu { D with nx := nxI { g with Fl := F1 } (Iv (i + 1)) (P (i + 1)), ct := nxI { g with Fl := F1 } (Iv (i + 1)) (P (i + 1)), bk := D.nx } G1)
    (done : ∀ a, P ds.length a → N g D.nx (Iv ds.length a)) : S g (tFor wi tg tu) D G := fun σ F H hh => it σ F H hh _ fun J F1 H1 s1 W => by
  have up : ∀ {G : List Sl} {σ : L2.St} {F H : Hp}, Ex g.Fl F1 → Holds { g with Fl := F1 } G σ F H → Holds g G σ F H := fun e h => ⟨h.len, h.st, h.sl, h.apart, h.tab, e.trans h.lo⟩
  have el : Ex g.Fl F1 := hh.lo.trans s1.f
  refine ⟨fun i m σ H => m = ds.length - i ∧ i ≤ ds.length ∧ nxI { g with Fl := F1 } (Iv i) (P i) σ H, ⟨ds.length, by simp, Nat.zero_le _, a0, p0, F1, ?_⟩, ?_⟩
  · have h1 := (hh.mono s1).wk w0
    exact ⟨h1.len, h1.st, h1.sl, h1.apart, h1.tab, Ex.refl F1⟩
  · rintro i m σ2 H2 ⟨rfl, hi, a, p, F2, hh2⟩
    by_cases hlt : i < ds.length
    · refine .inr ⟨W.go i F2 H2 hh2.lo hh2.st.i hlt, nxI { g with Fl := F1 } (Iv (i + 1)) (P (i + 1)), fun σ' H' q => ⟨ds.length - (i + 1), by omega, rfl, hlt, q⟩, fun x H' y => ?_⟩
      obtain ⟨F3, s3, d3⟩ := W.yld i F2 H2 x H' ds[i] hh2.lo hh2.st.i (List.getElem?_eq_getElem hlt) y
      obtain ⟨G1, ix, ht, hs⟩ := turn F1 i a ds[i] (List.getElem?_eq_getElem hlt) p
      exact ht x σ2 F3 H' (hh2.mono s3) d3 _ fun σ' h' _ => hs σ' F3 H' h'
    · have e : i = ds.length := by omega
      subst e
      exact .inl ⟨W.stop F2 H2 hh2.lo hh2.st.i, done a p σ2 F2 H2 (up el hh2)⟩
theorem s_while {α : Type} (Iv : α → List Sl) (P : α → Prop) (m : α → Nat) (a0 : α) (p0 : P a0) (w0 : Wk G (Iv a0))
    (turn : ∀ a, P a → ∃ b, T g tt (Iv a) b ∧ (b = true → S g tu { D with nx := nxI g Iv (fun a' => P a' ∧ m a' < m a), ct := nxI g Iv (fun a' => P a' ∧ m a' < m a), bk := D.nx } (Iv a)) ∧ (b = false → N g D.nx (Iv a))) : S g (tWhile tt tu) D G := fun σ F H hh => by
  refine ⟨fun n σ H => ∃ a, n = m a ∧ P a ∧ ∃ F, Holds g (Iv a) σ F H, ⟨_, a0, rfl, p0, F, hh.wk w0⟩, ?_⟩
  rintro n σ2 H2 ⟨a, rfl, p, F2, hh2⟩
  obtain ⟨b, ht, h1, h2⟩ := turn a p
  refine ht σ2 F2 H2 hh2 _ fun F3 H3 s3 => ?_
  cases b with
  | true => exact ⟨_, fun σ' H' ⟨a', ⟨p', l⟩, F', h'⟩ => ⟨m a', l, a', rfl, p', F', h'⟩, h1 rfl σ2 F3 H3 (hh2.mono s3)⟩
  | false => exact h2 rfl σ2 F3 H3 (hh2.mono s3)

/-! ### comprehensions -/
def wipeG (G : List Sl) : List Nat → List Sl
  | [] => G
  | v :: vs => (wipeG G vs).set v .un
theorem wipeG_len (G : List Sl) : ∀ vs, (wipeG G vs).length = G.length
  | [] => rfl
  | v :: vs => by unfold wipeG; rw [List.length_set, wipeG_len G vs]
theorem Holds.wipe {σ : L2.St} {F H : Hp} (h : Holds g G σ F H) : ∀ vs, Holds g (wipeG G vs) (wipe σ vs) F H
  | [] => h
  | v :: vs => by
    have ih := Holds.wipe h vs
    unfold wipeG L2.wipe
    refine ⟨by rw [List.length_set, List.length_set]; exact ih.len, ih.st, fun j s o e1 e2 => ?_, fun j k s t p e1 e2 m1 m2 e3 e4 => ?_, ih.tab, ih.lo⟩
    · by_cases hj : v = j
      · subst hj
        have hi : v < (wipeG G vs).length := by have := (List.getElem?_eq_some_iff.mp e1).1; rwa [List.length_set] at this
        rw [List.getElem?_set_self hi] at e1; cases e1; trivial
      · rw [List.getElem?_set_ne hj] at e1 e2; exact ih.sl j s o e1 e2
    · by_cases hj : v = j
      · subst hj
        have hi : v < (wipeG G vs).length := by have := (List.getElem?_eq_some_iff.mp e1).1; rwa [List.length_set] at this
        rw [List.getElem?_set_self hi] at e1; cases e1; cases m1
      · by_cases hk : v = k
        · subst hk
          have hi : v < (wipeG G vs).length := by have := (List.getElem?_eq_some_iff.mp e2).1; rwa [List.length_set] at this
          rw [List.getElem?_set_self hi] at e2; cases e2; cases m2
        · rw [List.getElem?_set_ne hj] at e1 e3
          rw [List.getElem?_set_ne hk] at e2 e4
          exact ih.apart j k s t p e1 e2 m1 m2 e3 e4
theorem t_yes : T g tYes G true := fun σ F H hh Q q => q F H (Stp.refl hh.st.i)
theorem filt_take {f : PyData → Option PyData} {l : List PyData} {i : Nat} {d : PyData} (h : l[i]? = some d) : (l.take (i + 1)).filterMap f = (l.take i).filterMap f ++ (match f d with | some y => [y] | none => []) := by
  rw [List.take_add_one, h, List.filterMap_append]
  cases e : f d with
  | none => simp [e]
  | some y => simp [e]
theorem el_lc {wi : TI} {vs : List Nat} (f : PyData → Option PyData) (G1 : PyData → List Sl) (it : IT g wi G ds) (hz : ds.length ≤ 40000)
    (tgt : ∀ F1, ∀ d ∈ ds, Tg { g with Fl := F1 } tg d (wipeG G vs) (G1 d) ix) (hix : ∀ j ∈ ix, j ∈ vs)
    (ht : ∀ F1, ∀ d ∈ ds, T { g with Fl := F1 } tt (G1 d) (f d).isSome) (he : ∀ F1, ∀ d ∈ ds, ∀ y, f d = some y → E { g with Fl := F1 } te (G1 d) y) : EL g (tLc wi tg tt te vs) G (ds.filterMap f) := fun σ F H hh Q q => it σ F H hh _ fun J F1 H1 s1 W Dl hD => by
  have hh1 := hh.mono s1
  have hw := Holds.wipe hh1 vs
  have hwl : Holds { g with Fl := F1 } (wipeG G vs) (wipe σ vs) F1 H1 := ⟨hw.len, hw.st, hw.sl, hw.apart, hw.tab, Ex.refl F1⟩
  have hD0 : g.H0 Dl = none := old_free hh1.st hD
  have nw := new_ok hwl hD
  let Pv : Nat → Hp → Prop := fun i H' => ∃ F' ws, Stp F1 H1 F' H' ∧ Holds { g with Fl := F1 } (wipeG G vs) (wipe σ vs) F' H' ∧ F' Dl = none ∧ H' Dl = some (.lst ws) ∧ DpAll g.K F' ws ((ds.take i).filterMap f)
  have flen : ∀ i, ((ds.take i).filterMap f).length ≤ 40000 := fun i => Nat.le_trans (List.length_filterMap_le _ _) (by rw [List.length_take]; omega)
  refine ⟨fun i m H' => m = ds.length - i ∧ i ≤ ds.length ∧ Pv i H', ⟨ds.length, by simp, Nat.zero_le _, F1, [], Stp.mine s1.i hD, hwl.mono (Stp.mine s1.i hD), s1.i.free hD, upd_same, .nil⟩, ?_⟩
  rintro i m H2 ⟨rfl, hi, F2, ws, s2, hh2, hF2, hH2, hd2⟩
  by_cases hlt : i < ds.length
  · have hget := List.getElem?_eq_getElem hlt
    have hmem : ds[i] ∈ ds := List.getElem_mem hlt
    refine .inr ⟨W.go i F2 H2 hh2.lo hh2.st.i hlt, Pv (i + 1), fun H' p' => ⟨ds.length - (i + 1), by omega, rfl, hlt, p'⟩, fun x H3 y => ?_⟩
    obtain ⟨F3, s3, d3⟩ := W.yld i F2 H2 x H3 ds[i] hh2.lo hh2.st.i hget y
    refine tgt F1 ds[i] hmem x (wipe σ vs) F3 H3 (hh2.mono s3) d3 _ fun σ3 hh3 w3 => ⟨?_, ?_⟩
    · rw [w3 vs hix]
      have ww : ∀ (l : List Nat), (∀ j ∈ l, j ∈ vs) → wipe (wipe σ l) vs = wipe σ vs := by
        intro l
        induction l with
        | nil => intro _; rfl
        | cons v l ih => intro hl; show wipe ((wipe σ l).set v none) vs = _; rw [wipe_set (hl v List.mem_cons_self)]; exact ih fun j hj => hl j (List.mem_cons_of_mem _ hj)
      exact ww vs fun _ h => h
    · refine ht F1 ds[i] hmem σ3 F3 H3 hh3 _ fun F4 H4 s4 => ?_
      have e : (ds.take (i + 1)).filterMap f = _ := filt_take (f := f) hget
      cases hf : f ds[i] with
      | none =>
        show Pv (i + 1) H4
        rw [hf] at e
        have ss := s3.trans s4
        exact ⟨F4, ws, s2.trans ss, hh2.mono ss, ss.n Dl _ hH2 hF2, ss.h.lst hH2, by rw [e, List.append_nil]; exact ss.f.dps _ ws hd2⟩
      | some yv =>
        show te σ3 H4 _
        rw [hf] at e
        refine he F1 ds[i] hmem yv hf σ3 F4 H4 (hh3.mono s4) _ fun w F5 H5 s5 d5 => ?_
        have ss := (s3.trans s4).trans s5
        have hF5 := ss.n Dl _ hH2 hF2
        have hH5 := ss.h.lst hH2
        refine ⟨ws, hH5, Nat.lt_of_le_of_lt (by rw [dps_len hd2]; exact flen i) (by decide), F5, ws ++ [w], (s2.trans ss).mut hD hF5 hH5 (fun _ z => by cases z), (hh2.mono ss).mut hD0 hF5 hH5 (fun _ z => by cases z) (fun j t e1 m e2 => nw j ⟨t, e1, m⟩ e2), hF5, upd_same, ?_⟩
        rw [e]
        exact dps_app (ss.f.dps _ ws hd2) (.cons d5 .nil)
  · have e : i = ds.length := by omega
    subst e
    rw [List.take_length] at hd2
    exact .inl ⟨W.stop F2 H2 hh2.lo hh2.st.i, q Dl ws F2 H2 (s1.trans s2) (old_free s1 hD) hF2 hH2 hd2⟩
end

/-! ### defs -/
/-- the promise by data: R tells the answer -/
def spD (K : PySem.W.Frag) (Tb : List Addr) (R : List PyData → PyData → Prop) : Sp := fun vs H Q _ => ∃ F ds d, Sub F H ∧ (∀ P ∈ Tb, GxR.TabG H P) ∧ DpAll K F vs ds ∧ R ds d ∧ ∀ v F' H', Stp F H F' H' → Dp K F' v d → Q v H'
/-- .. a new list, the caller's alone -/
def spL (K : PySem.W.Frag) (Tb : List Addr) (R : List PyData → List PyData → Prop) : Sp := fun vs H Q _ => ∃ F ds es, Sub F H ∧ (∀ P ∈ Tb, GxR.TabG H P) ∧ DpAll K F vs ds ∧ R ds es ∧ ∀ p ws F' H', Stp F H F' H' → H p = none → F' p = none → H' p = some (.lst ws) → DpAll K F' ws es → Q (.ref p) H'
def startG (n : Nat) (ds : List PyData) : List Sl := ds.map .fz ++ List.replicate (n - ds.length) .un
theorem holds_start {K : PySem.W.Frag} {Tb : List Addr} {F H : Hp} {vs : List V} {ds : List PyData} {Nn : List Str} (sb : Sub F H) (ht : ∀ P ∈ Tb, GxR.TabG H P) (hd : DpAll K F vs ds) : Holds ⟨K, Tb, F, H, F⟩ (startG Nn.length ds) (L2.start Nn vs) F H := by
  have hl := dps_len hd
  refine ⟨by unfold L2.start startG; rw [List.length_append, List.length_append, List.length_map, List.length_map, List.length_replicate, List.length_replicate, hl], Stp.refl sb, fun j s o e1 e2 => ?_, fun j k s t p e1 _ m1 _ _ _ => ?_, ht, Ex.refl F⟩
  · unfold startG at e1
    unfold L2.start at e2
    by_cases hj : j < ds.length
    · rw [List.getElem?_append_left (by rw [List.length_map]; exact hj), List.getElem?_map] at e1
      rw [List.getElem?_append_left (by rw [List.length_map, hl]; exact hj), List.getElem?_map] at e2
      cases h1 : ds[j]? with
      | none => rw [h1] at e1; cases e1
      | some d =>
        rw [h1] at e1; cases e1
        obtain ⟨v, h2, h3⟩ := dps_get hd h1
        rw [h2] at e2; cases e2
        exact ⟨v, rfl, h3⟩
    · rw [List.getElem?_append_right (by rw [List.length_map]; omega), List.getElem?_replicate] at e1
      split at e1
      · cases e1; trivial
      · cases e1
  · have no : ∀ (s : Sl), (startG Nn.length ds)[j]? = some s → s.mine = false := fun s e => by
      unfold startG at e
      rcases List.mem_append.mp (List.mem_of_getElem? e) with h | h
      · obtain ⟨d, _, rfl⟩ := List.mem_map.mp h; rfl
      · rw [(List.mem_replicate.mp h).2]; rfl
    rw [no s e1] at m1; cases m1
section
variable {g : Gd} {G : List Sl} {te : TE} {ta : TA} {d : PyData} {ds es : List PyData}
theorem Stp.back {F F1 H F' H' : Hp} (sb : Sub F H) (s : Stp F1 H F' H') : Stp F H F H' := ⟨Ex.refl F, ⟨sb.ex.trans s.h, sb.nt⟩, s.h, s.s, s.t, fun _ _ _ n => n⟩
theorem e_call {R : List PyData → PyData → Prop} {Ek : XK} (h : A g ta G ds) (r : R ds d) : E g (tCall (spD g.K g.T R) [] Ek ta) G d := fun σ F H hh Q q => h σ F H hh _ fun vs F1 H1 s1 d1 => by
  rw [List.append_nil]
  exact ⟨F1, ds, d, s1.i, (hh.mono s1).tab, d1, r, fun v F2 H2 s2 d2 => q v F2 H2 (s1.trans s2) d2⟩
theorem b_call {R : List PyData → PyData → Prop} {Ek : XK} (h : AB g ta G ds) (r : R ds d) (hs : scalD d = true) : E g (tCall (spD g.K g.T R) [] Ek ta) G d := fun σ F H hh Q q => h σ F H hh _ fun vs F1 H1 s1 d1 => by
  rw [List.append_nil]
  exact ⟨cut H1, ds, d, sub_cut H1, (hh.mono s1).tab, (ex_cut H1).dps ds vs d1, r, fun v F2 H2 s2 d2 => q v F1 H2 (s1.trans (Stp.back s1.i s2)) (dp_scal hs d2)⟩
theorem el_call {R : List PyData → List PyData → Prop} {Ek : XK} (h : A g ta G ds) (r : R ds es) : EL g (tCall (spL g.K g.T R) [] Ek ta) G es := fun σ F H hh Q q => h σ F H hh _ fun vs F1 H1 s1 d1 => by
  rw [List.append_nil]
  exact ⟨F1, ds, es, s1.i, (hh.mono s1).tab, d1, r, fun p ws F2 H2 s2 h0 hF hH d2 => q p ws F2 H2 (s1.trans s2) (old_free s1 h0) hF hH d2⟩
end
/-- a def at hand: where it stands and what it promises -/
structure Df (P : Program) (w : World) (K : PySem.W.Frag) (mg : Str → Option Value) (base : Heap) (k : Nat) (x : Str) (ps : List Str) (sp : Sp) : Prop where
  ex : ∃ f fd, FnOk P w K mg base CX0 k f fd ps sp ∧ mg x = some (.ref f) ∧ PySem.W.keepIn K (.ref f) = true ∧ Binds K fd ps []
theorem pe_df {X : Cx} {k j : Nat} {x : Str} {ps : List Str} {sp : Sp} {e : Expr} {es : List Expr} {t : TA} {p pos : Pos} (D : Df X.prog X.w X.K X.mg X.base j x ps sp) (hr : Room k X.A) (hj : j ≤ k) (hg : Gl X x) (ha : PA X (e :: es) t) (hdb : (x == ("__debug__" : Str)) = false := by decide)
    (he : starEach (e :: es) X.env = (false, eval e X.env) :: starEach es X.env := by rfl) (hpl : (backTo pos (starEach es X.env)).any (·.1) = false := by rfl) : PE X (.Call (.Name x p) (e :: es) [] pos) (tCall sp [] E0 t) := by
  obtain ⟨f, fd, F, hm, hk, hb⟩ := D.ex
  exact pe_call F (hr.mono hj) hg hm hk hb .nil pass0 ha hdb he hpl
section
variable {P : Program} {w : World} {K : PySem.W.Frag} {mg : Str → Option Value} {base : Heap} {x qual : Str} {st : Stmt} {f : Addr} {fd : FuncData} {Nn ps : List Str} {k : Nat} {Tb : List Addr}
/-- a def that gives data -/
theorem df_D (F : Fun K x qual st f fd) (Sc : FnScope Nn ps (defScope st)) (hm : mg x = some (.ref f)) (hb : Binds K fd ps []) {R : List PyData → PyData → Prop} (hlen : ∀ ds d, R ds d → ds.length = ps.length)
    (body : ∀ (cdv : Value) (A : Around) (outer : List Env) (s : Shared) (H : Hp) (E : XK), Room k (A.deeper (envOfC qual (defScope st) s.heap.objs.size f cdv)) →
      ∃ t, PSs (cxOf CX0 P w K mg base Nn qual (defScope st) f cdv A outer s H E).nox (defBody st) t ∧ ∀ (ds : List PyData) (d : PyData) (F0 H0 : Hp) (Q : VK), R ds d → Rt ⟨K, Tb, F0, H0, F0⟩ Q d → S ⟨K, Tb, F0, H0, F0⟩ t { nx := fun _ H' => Q .non H', rt := Q } (startG Nn.length ds)) :
    Df P w K mg base (k + 1) x ps (spD K Tb R) := by
  refine ⟨f, fd, F.ok Sc (fun vs H Q E h => ?_) (fun cdv A outer s H vs Q E hr h => ?_), hm, F.kp, hb⟩
  · obtain ⟨F, ds, d, _, _, hd, r, _⟩ := h
    exact (dps_len hd).trans (hlen ds d r)
  · obtain ⟨F1, ds, d, sb, ht, hd, r, q⟩ := h
    obtain ⟨t, h1, h2⟩ := body cdv A outer s H E hr
    exact ⟨t, h1, h2 ds d F1 H Q r q _ F1 H (holds_start sb ht hd)⟩
theorem df_L (F : Fun K x qual st f fd) (Sc : FnScope Nn ps (defScope st)) (hm : mg x = some (.ref f)) (hb : Binds K fd ps []) {R : List PyData → List PyData → Prop} (hlen : ∀ ds es, R ds es → ds.length = ps.length)
    (body : ∀ (cdv : Value) (A : Around) (outer : List Env) (s : Shared) (H : Hp) (E : XK), Room k (A.deeper (envOfC qual (defScope st) s.heap.objs.size f cdv)) →
      ∃ t, PSs (cxOf CX0 P w K mg base Nn qual (defScope st) f cdv A outer s H E).nox (defBody st) t ∧ ∀ (ds : List PyData) (es : List PyData) (F0 H0 : Hp) (Q : VK), R ds es → RtL ⟨K, Tb, F0, H0, F0⟩ Q es → S ⟨K, Tb, F0, H0, F0⟩ t { nx := fun _ H' => Q .non H', rt := Q } (startG Nn.length ds)) :
    Df P w K mg base (k + 1) x ps (spL K Tb R) := by
  refine ⟨f, fd, F.ok Sc (fun vs H Q E h => ?_) (fun cdv A outer s H vs Q E hr h => ?_), hm, F.kp, hb⟩
  · obtain ⟨F, ds, d, _, _, hd, r, _⟩ := h
    exact (dps_len hd).trans (hlen ds d r)
  · obtain ⟨F1, ds, d, sb, ht, hd, r, q⟩ := h
    obtain ⟨t, h1, h2⟩ := body cdv A outer s H E hr
    exact ⟨t, h1, h2 ds d F1 H Q r q _ F1 H (holds_start sb ht hd)⟩
end
end DW

namespace DW
open PySem PySem.Spec PyProof.Rows L2
/-- the built-in names that the module leaves alone -/
structure Zb (mg : Str → Option Value) : Prop where
  len : mg "len" = none
  range : mg "range" = none
  sorted : mg "sorted" = none
  list : mg "list" = none
  tuple : mg "tuple" = none
  int : mg "int" = none
  bool : mg "bool" = none
  str : mg "str" = none
  dict : mg "dict" = none
  set : mg "set" = none
  isinstance : mg "isinstance" = none
  sum : mg "sum" = none
  min : mg "min" = none
  max : mg "max" = none
  enumerate : mg "enumerate" = none
  zip : mg "zip" = none
  any : mg "any" = none
  all : mg "all" = none
  abs : mg "abs" = none
/-- a list, a tuple or a text -/
def iAny (K : PySem.W.Frag) (te : TE) : TI := fun σ H R => iSeq K te σ H R ∨ iStr te σ H R
theorem pi_any {X : Cx} {tg l : Expr} {tl : TE} (hl : PE X l tl) : PI X tg l (iAny X.K tl) := ⟨fun pins s σ H R I h => by
  rcases h with h | h
  · exact (pi_seq hl).run pins s σ H R I h
  · exact (pi_str hl).run pins s σ H R I h⟩
section
variable {g : Gd} {G G' G1 : List Sl} {te ta tb tc : TE} {d x y : PyData} {ds es : List PyData} {i j : Nat}
theorem it_al (h : E g te G (.list ds)) : IT g (iAny g.K te) G ds := fun σ F H hh R r => .inl (it_sl h σ F H hh R r)
theorem it_at (h : E g te G (.tuple ds)) : IT g (iAny g.K te) G ds := fun σ F H hh R r => .inl (it_st h σ F H hh R r)
def sgD (z : Str) : List PyData := z.cps.toList.map fun c => .str ⟨#[c]⟩
theorem it_as {z : Str} (h : E g te G (.str z)) : IT g (iAny g.K te) G (sgD z) := fun σ F H hh R r => .inr (h σ F H hh _ fun v F1 H1 s1 d1 => by
  cases d1
  have ln : (sgD z).length = z.cps.size := by unfold sgD; rw [List.length_map, Array.length_toList]
  refine ⟨z, rfl, r _ F1 H1 s1 ⟨fun i F H _ _ hi => by rw [ln] at hi; exact hi, fun F H _ _ => by rw [ln]; exact Nat.le_refl _, fun i F H x H' d _ sb hd hy => ?_⟩⟩
  obtain ⟨rfl, c, hc, rfl⟩ := hy
  unfold sgD at hd
  rw [List.getElem?_map, Array.getElem?_toList, hc] at hd
  cases hd
  exact ⟨F, Stp.refl sb, .str _⟩)
/-- a constant of the module -/
theorem pe_gc {X : Cx} {x : Str} {v : V} {pos : Pos} (C : ∃ u, X.mg x = some u ∧ RelV v u) (hg : Gl X x) (hd : (x == ("__debug__" : Str)) = false := by decide) : PE X (.Name x pos) (tC v) := by
  obtain ⟨u, h1, h2⟩ := C
  exact pe_glob hg h1 h2 hd
end
/-! ### a statement and what follows it -/
section
variable {g : Gd} {G G' G1 : List Sl} {te ta tb tc : TE} {tt : TT} {t1 t2 tu tw : TS} {d x y : PyData} {ds es : List PyData} {i j : Nat} {D : Ends} {tg : TG} {ix : List Nat}
theorem n_go {rt : VK} {bk ct : L2.St → Hp → Prop} (h : S g tw D G) : N g ({ nx := tw D, rt := rt, bk := bk, ct := ct } : Ends).nx G := h
theorem q_asg (h : E g te G d) (k : S g tw D (G.set i (.fz d))) : S g (tSeq (tAsg te (gName i)) tw) D G := s_asg (D := { D with nx := tw D }) h k
theorem q_asgL (h : EL g te G ds) (k : S g tw D (G.set i (.ow ds))) : S g (tSeq (tAsg te (gName i)) tw) D G := s_asgL (D := { D with nx := tw D }) h k
theorem q_asgT (h : E g te G d) (ht : Tg g tg d G G' ix) (k : S g tw D G') : S g (tSeq (tAsg te tg) tw) D G := s_asgT (D := { D with nx := tw D }) h ht k
theorem q_app (h : G[i]? = some (.ow ds)) (he : E g te G d) (hz : ds.length < 100000) (k : S g tw D (G.set i (.ow (ds ++ [d])))) : S g (tSeq (tDrop (tBM g.K "list" rAppend (tVar i) (tCons te tNil))) tw) D G := s_app (D := { D with nx := tw D }) h he hz k
theorem q_drop (h : E g te G d) (k : S g tw D G) : S g (tSeq (tDrop te) tw) D G := s_drop (D := { D with nx := tw D }) h k
theorem q_aug {f : Int → Int → Int} {a b : Int} (hx : G[i]? = some (.fz (.int a))) (h : E g te G (.int b)) (k : S g tw D (G.set i (.fz (.int (f a b))))) : S g (tSeq (tAug i te (ipI f)) tw) D G := s_aug (D := { D with nx := tw D }) hx h k
theorem q_if {b : Bool} (h : T g tt G b) (h1 : b = true → S g t1 { D with nx := tw D } G) (h2 : b = false → S g t2 { D with nx := tw D } G) : S g (tSeq (tIfS tt t1 t2) tw) D G := s_if (D := { D with nx := tw D }) h h1 h2
theorem q_next (k : S g tw D G) : S g (tSeq tNext tw) D G := k
theorem q_for {α : Type} {wi : TI} (Iv : Nat → α → List Sl) (P : Nat → α → Prop) (it : IT g wi G ds) (a0 : α) (p0 : P 0 a0) (w0 : Wk G (Iv 0 a0))
    (turn : ∀ F1 (i : Nat) (a : α) (d : PyData), ds[i]? = some d → P i a → ∃ G1 ix, Tg { g with Fl := F1 } tg d (Iv i a) G1 ix ∧
      S { g with Fl := F1 } tu { nx := nxI { g with Fl := F1 } (Iv (i + 1)) (P (i + 1)), rt := D.rt, ct := nxI { g with Fl := F1 } (Iv (i + 1)) (P (i + 1)), bk := tw D } G1)
    (done : ∀ a, P ds.length a → S g tw D (Iv ds.length a)) : S g (tSeq (tFor wi tg tu) tw) D G := s_for (D := { D with nx := tw D }) Iv P it a0 p0 w0 turn done
/-- .. one state a turn -/
theorem q_for1 {wi : TI} (Iv : Nat → List Sl) (it : IT g wi G ds) (w0 : Wk G (Iv 0))
    (turn : ∀ F1 (i : Nat) (d : PyData), ds[i]? = some d → ∃ G1 ix, Tg { g with Fl := F1 } tg d (Iv i) G1 ix ∧
      S { g with Fl := F1 } tu { nx := nxI { g with Fl := F1 } (fun _ : Unit => Iv (i + 1)) (fun _ => True), rt := D.rt, ct := nxI { g with Fl := F1 } (fun _ : Unit => Iv (i + 1)) (fun _ => True), bk := tw D } G1)
    (done : S g tw D (Iv ds.length)) : S g (tSeq (tFor wi tg tu) tw) D G :=
  q_for (fun i (_ : Unit) => Iv i) (fun _ _ => True) it () trivial w0 (fun F1 i _ d hd _ => turn F1 i d hd) fun _ _ => done
theorem s_for1 {wi : TI} (Iv : Nat → List Sl) (it : IT g wi G ds) (w0 : Wk G (Iv 0))
    (turn : ∀ F1 (i : Nat) (d : PyData), ds[i]? = some d → ∃ G1 ix, Tg { g with Fl := F1 } tg d (Iv i) G1 ix ∧
      S { g with Fl := F1 } tu { nx := nxI { g with Fl := F1 } (fun _ : Unit => Iv (i + 1)) (fun _ => True), rt := D.rt, ct := nxI { g with Fl := F1 } (fun _ : Unit => Iv (i + 1)) (fun _ => True), bk := D.nx } G1)
    (done : N g D.nx (Iv ds.length)) : S g (tFor wi tg tu) D G :=
  s_for (fun i (_ : Unit) => Iv i) (fun _ _ => True) it () trivial w0 (fun F1 i _ d hd _ => turn F1 i d hd) fun _ _ => done
theorem s_cutA {α : Type} (Iv : α → List Sl) (P : α → Prop) (h : S g tu { D with nx := nxI g Iv P } G) (k : ∀ a, P a → S g tw D (Iv a)) : S g (Evl.tCut tu tw) D G := fun σ F H hh =>
  ⟨nxI g Iv P, h σ F H hh, fun σ' H' ⟨a, p, F', h'⟩ => k a p σ' F' H' h'⟩
theorem s_cut (Gj : List Sl) (h : S g tu { D with nx := nxI g (fun _ : Unit => Gj) fun _ => True } G) (k : S g tw D Gj) : S g (Evl.tCut tu tw) D G := s_cutA (fun _ : Unit => Gj) (fun _ => True) h fun _ _ => k
theorem n_end1 {Iv : List Sl} (w : Wk G Iv) : N g (nxI g (fun _ : Unit => Iv) fun _ => True) G := n_end () trivial w
theorem q_while {α : Type} (Iv : α → List Sl) (P : α → Prop) (m : α → Nat) (a0 : α) (p0 : P a0) (w0 : Wk G (Iv a0))
    (turn : ∀ a, P a → ∃ b, T g tt (Iv a) b ∧ (b = true → S g tu { nx := nxI g Iv (fun a' => P a' ∧ m a' < m a), rt := D.rt, ct := nxI g Iv (fun a' => P a' ∧ m a' < m a), bk := tw D } (Iv a)) ∧ (b = false → S g tw D (Iv a))) : S g (tSeq (tWhile tt tu) tw) D G :=
  s_while (D := { D with nx := tw D }) Iv P m a0 p0 w0 turn
end
end DW

namespace DW
open PySem PySem.Spec PyProof.Rows L2

/-! ### sorted(a list of tuples of ints and texts) -/
abbrev Kt := List (Int ⊕ List Nat)
def itemsV (sh : Nat → Bool) : Nat → List V → Option Kt
  | _, [] => some []
  | i, .int n :: r => if sh i = true then none else (itemsV sh (i + 1) r).map (Sum.inl n :: ·)
  | i, .str x :: r => if sh i = true then (itemsV sh (i + 1) r).map (Sum.inr x.cps.toList :: ·) else none
  | _, _ :: _ => none
theorem items_vals {sh : Nat → Bool} : ∀ {zs : List V} {us : List Value} {i : Nat} {l : Kt}, Vals zs us → itemsV sh i zs = some l → tupItems sh i us = some l
  | [], _, _, _, .nil, h => h
  | .int n :: zs, u :: us, i, l, .cons r t, h => by
    obtain ⟨k, rfl⟩ := r
    have h' : (if sh i = true then none else (itemsV sh (i + 1) zs).map (Sum.inl n :: ·)) = some l := h
    show (if sh i = true then none else (tupItems sh (i + 1) us).map (Sum.inl n :: ·)) = some l
    by_cases hs : sh i = true
    · rw [if_pos hs] at h'; cases h'
    · rw [if_neg hs] at h' ⊢
      cases e : itemsV sh (i + 1) zs with
      | none => rw [e] at h'; cases h'
      | some l' => rw [e] at h'; rw [items_vals t e]; exact h'
  | .str x :: zs, u :: us, i, l, .cons r t, h => by
    obtain ⟨k, rfl⟩ := r
    have h' : (if sh i = true then (itemsV sh (i + 1) zs).map (Sum.inr x.cps.toList :: ·) else none) = some l := h
    show (if sh i = true then (tupItems sh (i + 1) us).map (Sum.inr x.cps.toList :: ·) else none) = some l
    by_cases hs : sh i = true
    · rw [if_pos hs] at h' ⊢
      cases e : itemsV sh (i + 1) zs with
      | none => rw [e] at h'; cases h'
      | some l' => rw [e] at h'; rw [items_vals t e]; exact h'
    · rw [if_neg hs] at h'; cases h'
  | .non :: _, _, _, _, _, h => by cases h
  | .bl _ :: _, _, _, _, _, h => by cases h
  | .byt _ :: _, _, _, _, _, h => by cases h
  | .flt _ :: _, _, _, _, _, h => by cases h
  | .ref _ :: _, _, _, _, _, h => by cases h
  | .ty _ :: _, _, _, _, _, h => by cases h
def rSortT (K : PySem.W.Frag) : List V → Hp → VK → Prop := fun vs H Q => ∃ (a : Addr) (ts : List Addr) (sh : Nat → Bool) (L : List Kt), vs = [V.ref a] ∧ SqL K H a (ts.map V.ref) ∧ ts.length ≤ 100000 ∧ L.length = ts.length ∧
  (∀ p ∈ ts.zip L, ∃ zs, SqT K H p.1 zs ∧ zs ≠ [] ∧ itemsV sh 0 zs = some p.2) ∧
  ∀ (us : List Addr) (Ls : List Kt) (p : Addr), Ls.length = us.length → (us.zip Ls).Perm (ts.zip L) → Ls.Pairwise (fun x y => lexLt itemOrd y x = false) → H p = none → Q (.ref p) (upd H p (.lst (us.map V.ref)))
theorem zip_map_self {α β : Type} (f : α → β) : ∀ (l : List α), l.zip (l.map f) = l.map fun x => (x, f x)
  | [] => rfl
  | x :: l => by rw [List.map_cons, List.zip_cons_cons, zip_map_self f l]; rfl
theorem zip_fun {α β : Type} {f : α → β} : ∀ {l : List α} {m : List β}, m.length = l.length → (∀ p ∈ l.zip m, f p.1 = p.2) → m = l.map f
  | [], [], _, _ => rfl
  | [], _ :: _, h, _ => by simp at h
  | _ :: _, [], h, _ => by simp at h
  | x :: l, y :: m, h, hp => by
    have e := hp (x, y) List.mem_cons_self
    rw [List.map_cons, zip_fun (l := l) (m := m) (by simpa using h) fun p hm => hp p (List.mem_cons_of_mem _ hm)]
    exact congrArg (· :: _) e.symm
theorem swo_key {α : Type} (O : KeyOrd) (k : α → O.α) : SrtO.Swo fun v u => O.blt (k v) (k u) :=
  ⟨fun x y h => by
    cases h2 : O.blt (k y) (k x) with
    | false => rfl
    | true =>
      have := O.trans _ _ _ h h2
      rw [O.irrefl] at this
      exact absurd this Bool.false_ne_true, fun x y z h1 h2 => by
    cases h3 : O.blt (k z) (k x) with
    | false => rfl
    | true =>
      rcases O.negTrans (k z) (k y) (k x) h3 with h | h
      · rw [h2] at h; cases h
      · rw [h1] at h; cases h⟩
theorem refs_vals : ∀ {ts : List Addr} {us : List Value}, Vals (ts.map V.ref) us → us = ts.map Value.ref
  | [], _, .nil => rfl
  | _ :: _, _, .cons r t => by cases r; rw [refs_vals t]; rfl
theorem vals_refs : ∀ (ts : List Addr), Vals (ts.map V.ref) (ts.map Value.ref)
  | [] => .nil
  | _ :: ts => .cons rfl (vals_refs ts)
theorem perm_refs {out : List Value} {ts : List Addr} (h : out.Perm (ts.map Value.ref)) : ∃ us : List Addr, out = us.map Value.ref ∧ us.Perm ts := by
  have inv : ∀ (l : List Value), (∀ v ∈ l, ∃ t, v = Value.ref t) → ∃ us : List Addr, l = us.map Value.ref := by
    intro l
    induction l with
    | nil => intro _; exact ⟨[], rfl⟩
    | cons v l ih =>
      intro hv
      obtain ⟨t, rfl⟩ := hv v List.mem_cons_self
      obtain ⟨us, rfl⟩ := ih fun w hw => hv w (List.mem_cons_of_mem _ hw)
      exact ⟨t :: us, rfl⟩
  obtain ⟨us, rfl⟩ := inv out fun v hv => by
    obtain ⟨t, _, e⟩ := List.mem_map.mp (h.mem_iff.mp hv)
    exact ⟨t, e.symm⟩
  refine ⟨us, rfl, ?_⟩
  have h2 := h.map fun v => match v with | Value.ref t => t | _ => 0
  rw [List.map_map, List.map_map] at h2
  have e : ((fun v => match v with | Value.ref t => t | _ => (0 : Addr)) ∘ Value.ref) = id := by funext t; rfl
  rw [e, List.map_id, List.map_id] at h2
  exact h2
theorem tups_of {h : Heap} {sh : Nat → Bool} : ∀ {ts : List Addr}, (∀ t ∈ ts, ∃ us : List Value, ∃ l, IsTup h t us.toArray ∧ us ≠ [] ∧ tupItems sh 0 us = some l) → ∃ fs, TupsOf h sh (ts.map Value.ref) fs
  | [], _ => ⟨[], .nil⟩
  | t :: ts, hh => by
    obtain ⟨fs, q⟩ := tups_of fun x hx => hh x (List.mem_cons_of_mem _ hx)
    obtain ⟨us, l, ⟨o, h1, h2, n, h3⟩, ne, hi⟩ := hh t List.mem_cons_self
    cases us with
    | nil => exact absurd rfl ne
    | cons u us =>
      refine ⟨u :: fs, .cons ⟨t, o, (u :: us).toArray, n, rfl, h1, h2, h3, by simp, fun hs => ?_, fun hs => ?_⟩ q⟩
      · obtain ⟨k, tk, _, e, _⟩ := tupItems_int hs hi; exact ⟨k, tk, e⟩
      · obtain ⟨k, tk, _, e, _⟩ := tupItems_str hs hi; exact ⟨k, tk, e⟩
theorem cr_sortT5 {X : Cx} : CallR X (.builtin "sorted") (rSortT X.K) := by
  intro pins s σ H vs us Q I r h
  obtain ⟨a, ts, sh, L, rfl, hS, hz, hL, hk, q⟩ := h
  obtain ⟨its, rv, hl, z⟩ := I.list hS
  have e0 := refs_vals rv
  subst e0
  rw [Vals.ref1 r]
  let kf : Addr → Kt := fun t => (PyProof.Rows.G.tupKeyC s.heap sh (.ref t)).getD []
  have key0 : ∀ p ∈ ts.zip L, ∃ us : List Value, IsTup s.heap p.1 us.toArray ∧ us ≠ [] ∧ tupItems sh 0 us = some p.2 ∧ PyProof.Rows.G.tupKeyC s.heap sh (.ref p.1) = some p.2 := fun ⟨t, k⟩ ht => by
    obtain ⟨zs, h1, ne, h2⟩ := hk (t, k) ht
    obtain ⟨us, r1, it, _⟩ := I.tuple h1
    have h3 := items_vals r1 h2
    refine ⟨us, it, fun z => ?_, h3, ?_⟩
    · subst z; cases r1; exact ne rfl
    · obtain ⟨o, g1, g2, n, g3⟩ := it
      have h4 : PyProof.Rows.G.isTupObj s.heap (.ref t) = true := by
        show (match s.heap.get? t with | some o => (match o.cls with | .type n => n == "tuple" | _ => false) | none => false) = true
        rw [g1]
        show (match o.cls with | .type n => n == "tuple" | _ => false) = true
        rw [g2]; rfl
      unfold PyProof.Rows.G.tupKeyC
      rw [if_pos h4]
      show (match s.heap.get? t with | some o => (match o.data with | .seq xs _ => tupItems sh 0 xs.toList | _ => none) | none => none) = _
      rw [g1]
      show (match o.data with | .seq xs _ => tupItems sh 0 xs.toList | _ => none) = _
      rw [g3]
      exact h3
  have eL : L = ts.map kf := zip_fun hL fun p hp => by
    obtain ⟨_, _, _, _, e⟩ := key0 p hp
    show (PyProof.Rows.G.tupKeyC s.heap sh (.ref p.1)).getD [] = _
    rw [e]; rfl
  have key : ∀ t ∈ ts, ∃ us : List Value, IsTup s.heap t us.toArray ∧ us ≠ [] ∧ tupItems sh 0 us = some (kf t) ∧ PyProof.Rows.G.tupKeyC s.heap sh (.ref t) = some (kf t) := fun t ht => by
    refine key0 (t, kf t) ?_
    rw [eL, zip_map_self]
    exact List.mem_map.mpr ⟨t, ht, rfl⟩
  let kv : Value → Kt := fun v => (PyProof.Rows.G.tupKeyC s.heap sh v).getD []
  have sl : sizeLine = 16777216 := sizeLine_eq
  refine SrtO.sorted_ord (ltv := fun v u => (listOrd itemOrd).blt (kv v) (kv u)) (swo_key (listOrd itemOrd) kv) hl.isList (by rw [List.length_map]; omega) (fun h2 h₁ b hb kk h' keep => ?_) fun out hs hb => ?_
  · have kt : PyProof.Rows.G.KeepsTups s.heap h' := fun c o e _ => keep c o (kk c o e).1 (kk c o e).2
    refine ⟨tuples' true, fun Q E hq => ?_, fun p q hp hq => ?_⟩
    · obtain ⟨fs, hf⟩ := tups_of (h := s.heap) (sh := sh) (ts := ts) fun t ht => let ⟨us, g1, g2, g3, _⟩ := key t ht; ⟨us, _, g1, g2, g3⟩
      have lf := PyProof.Rows.G.TupsOf.length hf
      exact tup_kind (s := { s with heap := h' }) (by rw [lf]; omega) (PyProof.Rows.G.TupsOf.keep kt hf) hq
    · have hp' : p.1 ∈ ts.map Value.ref := hp
      have hq' : q.1 ∈ ts.map Value.ref := hq
      obtain ⟨t, ht, et⟩ := List.mem_map.mp hp'
      obtain ⟨u, hu, eu⟩ := List.mem_map.mp hq'
      obtain ⟨_, _, _, _, k1⟩ := key t ht
      obtain ⟨_, _, _, _, k2⟩ := key u hu
      rw [et] at k1
      rw [eu] at k2
      refine PyProof.Rows.G.tupC_ltAt (s := { s with heap := h' }) true kt _ _ p.1 q.1 (kf t) (kf u) k1 k2 ⟨rfl, ?_⟩
      show _ = (listOrd itemOrd).blt (kv p.1) (kv q.1)
      have e1 : kv p.1 = kf t := by show (PyProof.Rows.G.tupKeyC s.heap sh p.1).getD [] = _; rw [k1]; rfl
      have e2 : kv q.1 = kf u := by show (PyProof.Rows.G.tupKeyC s.heap sh q.1).getD [] = _; rw [k2]; rfl
      rw [e1, e2]
  · obtain ⟨us, rfl, pm⟩ := perm_refs hb.perm
    obtain ⟨ep, he⟩ := PyProof.Rows.sortedAll_at s.heap (ts.map Value.ref) (us.map Value.ref).toArray
    have hlen : (us.map V.ref).length ≤ sizeLine := by rw [List.length_map, pm.length_eq]; omega
    have srt : us.Pairwise fun x y => lexLt itemOrd (kf y) (kf x) = false := by
      have h1 := List.pairwise_map.mp hs
      refine h1.imp_of_mem fun {x y} hx hy hxy => ?_
      obtain ⟨_, _, _, _, k1⟩ := key x (pm.mem_iff.mp hx)
      obtain ⟨_, _, _, _, k2⟩ := key y (pm.mem_iff.mp hy)
      have e1 : kv (.ref x) = kf x := by show (PyProof.Rows.G.tupKeyC s.heap sh (.ref x)).getD [] = _; rw [k1]; rfl
      have e2 : kv (.ref y) = kf y := by show (PyProof.Rows.G.tupKeyC s.heap sh (.ref y)).getD [] = _; rw [k2]; rfl
      have hxy' : lexLt itemOrd (kv (.ref y)) (kv (.ref x)) = false := hxy
      rw [e1, e2] at hxy'
      exact hxy'
    exact ⟨.ref _, upd H (s.heap.objs.size + 1) (.lst (us.map V.ref)), I.laid (t' := s.toks) (fun _ _ => PyProof.Rows.sortedAll_old) (Nat.le_succ _) ⟨hlen, us.map Value.ref, ep, vals_refs us, he⟩, rfl, q us (us.map kf) _ (by rw [List.length_map]) (by rw [eL, zip_map_self, zip_map_self]; exact pm.map _) (List.pairwise_map.mpr srt) (I.hok.fresh (Nat.le_succ _))⟩

/-! .. by data -/
def itm : PyData → Int ⊕ List Nat
  | .int n => .inl n
  | .str s => .inr s.cps.toList
  | _ => .inl 0
def keyD : PyData → Kt
  | .tuple l => l.map itm
  | _ => []
def leD (x y : PyData) : Bool := !lexLt itemOrd (keyD y) (keyD x)
def sortD (ds : List PyData) : List PyData := ds.mergeSort leD
/-- every item is an int or a text, as its place says -/
def shD (sh : Nat → Bool) : Nat → List PyData → Bool
  | _, [] => true
  | i, .int _ :: r => !sh i && shD sh (i + 1) r
  | i, .str _ :: r => sh i && shD sh (i + 1) r
  | _, _ :: _ => false
theorem sh_items {K : PySem.W.Frag} {F : Hp} {sh : Nat → Bool} : ∀ {zs : List V} {l : List PyData} {i : Nat}, DpAll K F zs l → shD sh i l = true → itemsV sh i zs = some (l.map itm)
  | _, _, _, .nil, _ => rfl
  | _, .int n :: l, i, .cons h t, e => by
    cases h
    have e' : (!sh i && shD sh (i + 1) l) = true := e
    rw [Bool.and_eq_true] at e'
    obtain ⟨e1, e2⟩ := e'
    show (if sh i = true then none else (itemsV sh (i + 1) _).map (Sum.inl n :: ·)) = _
    have : ¬ sh i = true := by cases h : sh i <;> simp [h] at e1 ⊢
    rw [if_neg this, sh_items t e2]; rfl
  | _, .str x :: l, i, .cons h t, e => by
    cases h
    have e' : (sh i && shD sh (i + 1) l) = true := e
    rw [Bool.and_eq_true] at e'
    obtain ⟨e1, e2⟩ := e'
    show (if sh i = true then (itemsV sh (i + 1) _).map (Sum.inr x.cps.toList :: ·) else none) = _
    rw [if_pos e1, sh_items t e2]; rfl
  | _, .none :: _, _, _, e => by cases e
  | _, .bool _ :: _, _, _, e => by cases e
  | _, .list _ :: _, _, _, e => by cases e
  | _, .tuple _ :: _, _, _, e => by cases e
  | _, .dict _ :: _, _, _, e => by cases e
theorem itm_inj {sh : Nat → Bool} : ∀ {l m : List PyData} {i : Nat}, shD sh i l = true → shD sh i m = true → l.map itm = m.map itm → l = m
  | [], [], _, _, _, _ => rfl
  | [], _ :: _, _, _, _, h => by cases h
  | _ :: _, [], _, _, _, h => by cases h
  | x :: l, y :: m, i, h1, h2, h => by
    rw [List.map_cons, List.map_cons] at h
    injection h with ha hb
    cases x <;> first | cases h1 | skip
    · cases y <;> first | cases h2 | skip
      · have e1 : (!sh i && shD sh (i + 1) l) = true := h1
        have e2 : (!sh i && shD sh (i + 1) m) = true := h2
        rw [Bool.and_eq_true] at e1 e2
        injection ha with ha
        rw [ha, itm_inj e1.2 e2.2 hb]
      · cases ha
    · cases y <;> first | cases h2 | skip
      · cases ha
      · have e1 : (sh i && shD sh (i + 1) l) = true := h1
        have e2 : (sh i && shD sh (i + 1) m) = true := h2
        rw [Bool.and_eq_true] at e1 e2
        injection ha with ha
        rw [itm_inj e1.2 e2.2 hb]
        congr 1
        rename_i s1 s2
        cases s1 with
        | mk c1 => cases s2 with
          | mk c2 => congr 2; exact Array.toList_inj.mp ha
/-- the one sorted arrangement -/
theorem sorted_uniq {α : Type} {R : α → α → Prop} : ∀ {l m : List α}, l.Perm m → (∀ a ∈ l, ∀ b ∈ l, R a b → R b a → a = b) → l.Pairwise R → m.Pairwise R → l = m
  | [], m, p, _, _, _ => by rw [List.nil_perm.mp p]
  | a :: l, [], p, _, _, _ => by have := p.length_eq; simp at this
  | a :: l, b :: m, p, anti, h1, h2 => by
    have e : a = b := by
      have ha : a ∈ b :: m := p.mem_iff.mp List.mem_cons_self
      have hb : b ∈ a :: l := p.mem_iff.mpr List.mem_cons_self
      rcases List.mem_cons.mp ha with e | ha
      · exact e
      · rcases List.mem_cons.mp hb with e | hb'
        · exact e.symm
        · exact anti a List.mem_cons_self b hb ((List.pairwise_cons.mp h1).1 b hb') ((List.pairwise_cons.mp h2).1 a ha)
    subst e
    rw [sorted_uniq ((List.perm_cons a).mp p) (fun x hx y hy => anti x (List.mem_cons_of_mem _ hx) y (List.mem_cons_of_mem _ hy)) (List.pairwise_cons.mp h1).2 (List.pairwise_cons.mp h2).2]
theorem leD_trans (x y z : PyData) (h1 : leD x y = true) (h2 : leD y z = true) : leD x z = true := by
  unfold leD at *
  have a1 : lexLt itemOrd (keyD y) (keyD x) = false := by simpa using h1
  have a2 : lexLt itemOrd (keyD z) (keyD y) = false := by simpa using h2
  cases h3 : lexLt itemOrd (keyD z) (keyD x) with
  | false => rfl
  | true =>
    rcases lex_negTrans (O := itemOrd) _ (keyD y) _ h3 with h | h
    · rw [a2] at h; cases h
    · rw [a1] at h; cases h
theorem leD_total (x y : PyData) : (leD x y || leD y x) = true := by
  unfold leD
  cases h1 : lexLt itemOrd (keyD y) (keyD x) with
  | false => rfl
  | true =>
    cases h2 : lexLt itemOrd (keyD x) (keyD y) with
    | false => rfl
    | true => have := lex_trans (O := itemOrd) _ _ _ h1 h2; rw [lex_irrefl] at this; cases this
theorem sortD_perm (ds : List PyData) : (sortD ds).Perm ds := List.mergeSort_perm ds leD
theorem sortD_sorted (ds : List PyData) : (sortD ds).Pairwise fun x y => leD x y = true := List.pairwise_mergeSort leD_trans leD_total ds
theorem zip_perm {α β : Type} {l m : List α} (p : l.Perm m) : ∀ {ds : List β}, ds.length = m.length → ∃ es : List β, es.length = l.length ∧ (l.zip es).Perm (m.zip ds) := by
  induction p with
  | nil => intro ds h; cases ds with
    | nil => exact ⟨[], rfl, List.Perm.refl _⟩
    | cons _ _ => simp at h
  | cons a _ ih => intro ds h; cases ds with
    | nil => simp at h
    | cons d ds =>
      obtain ⟨es, h1, h2⟩ := ih (ds := ds) (by simpa using h)
      exact ⟨d :: es, by simp [h1], h2.cons (a, d)⟩
  | swap a b l => intro ds h; match ds, h with
    | d1 :: d2 :: ds, h => exact ⟨d2 :: d1 :: ds, by simpa using h, List.Perm.swap _ _ _⟩
    | [_], h => simp at h
    | [], h => simp at h
  | trans _ _ ih1 ih2 => intro ds h; obtain ⟨es, h1, h2⟩ := ih2 (ds := ds) h
                         obtain ⟨fs, h3, h4⟩ := ih1 (ds := es) h1
                         exact ⟨fs, h3, h4.trans h2⟩
theorem dps_zip {K : PySem.W.Frag} {F : Hp} : ∀ {vs : List V} {ds : List PyData}, vs.length = ds.length → (∀ p ∈ vs.zip ds, Dp K F p.1 p.2) → DpAll K F vs ds
  | [], [], _, _ => .nil
  | [], _ :: _, h, _ => by simp at h
  | _ :: _, [], h, _ => by simp at h
  | v :: vs, d :: ds, h, hp => .cons (hp (v, d) List.mem_cons_self) (dps_zip (by simpa using h) fun p hm => hp p (List.mem_cons_of_mem _ hm))
theorem zip_dps {K : PySem.W.Frag} {F : Hp} : ∀ {vs : List V} {ds : List PyData}, DpAll K F vs ds → ∀ p ∈ vs.zip ds, Dp K F p.1 p.2
  | _, _, .nil, p, h => by cases h
  | _, _, .cons a t, p, h => by
    rcases List.mem_cons.mp h with rfl | h
    · exact a
    · exact zip_dps t p h
theorem trip {K : PySem.W.Frag} {F : Hp} : ∀ {us : List Addr} {Ls : List Kt} {es : List PyData}, Ls.length = us.length → es.length = us.length → (∀ t ∈ (us.zip Ls).zip es, Dp K F (.ref t.1.1) t.2 ∧ t.1.2 = keyD t.2) → DpAll K F (us.map V.ref) es ∧ Ls = es.map keyD
  | [], [], [], _, _, _ => ⟨.nil, rfl⟩
  | [], _ :: _, _, h, _, _ => by simp at h
  | [], [], _ :: _, _, h, _ => by simp at h
  | _ :: _, [], _, h, _, _ => by simp at h
  | _ :: _, _ :: _, [], _, h, _ => by simp at h
  | u :: us, k :: Ls, e :: es, h1, h2, h => by
    obtain ⟨a, b⟩ := h ((u, k), e) List.mem_cons_self
    obtain ⟨c, d⟩ := trip (us := us) (Ls := Ls) (es := es) (by simpa using h1) (by simpa using h2) fun t ht => h t (List.mem_cons_of_mem _ ht)
    exact ⟨.cons a c, by rw [List.map_cons, ← d]; exact congrArg (· :: Ls) b⟩
theorem zip3 {K : PySem.W.Frag} {F H : Hp} {sh : Nat → Bool} : ∀ {ts : List Addr} {ds : List PyData}, DpAll K F (ts.map V.ref) ds → (∀ d ∈ ds, ∃ l, d = .tuple l ∧ l ≠ [] ∧ shD sh 0 l = true) → Ex F H →
    (∀ p ∈ ts.zip (ds.map keyD), ∃ zs, SqT K H p.1 zs ∧ zs ≠ [] ∧ itemsV sh 0 zs = some p.2) ∧ (∀ t ∈ (ts.zip (ds.map keyD)).zip ds, Dp K F (.ref t.1.1) t.2 ∧ t.1.2 = keyD t.2)
  | [], [], _, _, _ => ⟨(fun p h => nomatch h), (fun p h => nomatch h)⟩
  | [], _ :: _, h, _, _ => by cases h
  | _ :: _, [], h, _, _ => by cases h
  | u :: ts, d :: ds, h, hd, e => by
    cases h with
    | cons a t =>
      obtain ⟨h1, h2⟩ := zip3 t (fun d hm => hd d (List.mem_cons_of_mem _ hm)) e
      obtain ⟨l, rfl, ne, hs⟩ := hd d List.mem_cons_self
      refine ⟨fun p hp => ?_, fun p hp => ?_⟩
      · rcases List.mem_cons.mp hp with rfl | hp
        · obtain ⟨x, ws, ex, h4, h5⟩ := dp_tq a
          cases ex
          refine ⟨ws, e.t h4, fun z => ?_, sh_items h5 hs⟩
          subst z; cases h5; exact ne rfl
        · exact h1 p hp
      · rcases List.mem_cons.mp hp with rfl | hp
        · exact ⟨a, rfl⟩
        · exact h2 p hp
theorem are_refs {K : PySem.W.Frag} {F : Hp} : ∀ {vs : List V} {ds : List PyData}, DpAll K F vs ds → (∀ d ∈ ds, ∃ l, d = PyData.tuple l) → ∃ ts : List Addr, vs = ts.map V.ref
  | _, _, .nil, _ => ⟨[], rfl⟩
  | _, _, .cons a t, hd => by
    obtain ⟨l, rfl⟩ := hd _ List.mem_cons_self
    obtain ⟨x, ws, rfl, _, _⟩ := dp_tq a
    obtain ⟨ts, rfl⟩ := are_refs t fun d hm => hd d (List.mem_cons_of_mem _ hm)
    exact ⟨x :: ts, rfl⟩
/-- sorted by data -/
theorem sort_core {K : PySem.W.Frag} {F H : Hp} {p : Addr} {vs : List V} {ds : List PyData} {Q : VK} (sh : Nat → Bool) (e : Ex F H) (h1 : SqL K H p vs) (h2 : DpAll K F vs ds) (hd : ∀ d ∈ ds, ∃ l, d = .tuple l ∧ l ≠ [] ∧ shD sh 0 l = true) (hz : ds.length ≤ 100000)
    (q : ∀ p ws, H p = none → DpAll K F ws (sortD ds) → Q (.ref p) (upd H p (.lst ws))) : rSortT K [.ref p] H Q := by
  obtain ⟨ts, rfl⟩ := are_refs h2 fun d hm => let ⟨l, h, _⟩ := hd d hm; ⟨l, h⟩
  have lts : ts.length = ds.length := by have := dps_len h2; rwa [List.length_map] at this
  obtain ⟨z1, z2⟩ := zip3 h2 hd e
  refine ⟨p, ts, sh, ds.map keyD, rfl, h1, by omega, by rw [List.length_map]; omega, z1, fun us Ls r hl hp hs hr => ?_⟩
  obtain ⟨es, le, pe⟩ := zip_perm hp (ds := ds) (by rw [List.length_zip, List.length_map]; omega)
  have lus : us.length = ds.length := by
    have := hp.length_eq
    rw [List.length_zip, List.length_zip, List.length_map] at this
    omega
  have les : es.length = us.length := by rw [le, List.length_zip]; omega
  obtain ⟨c, d⟩ := trip (K := K) (F := F) hl les fun t ht => z2 t (pe.mem_iff.mp ht)
  have pd : es.Perm ds := by
    have m := pe.map Prod.snd
    have f1 : ((us.zip Ls).zip es).map Prod.snd = es := List.map_snd_zip (by rw [List.length_zip]; omega)
    have f2 : ((ts.zip (ds.map keyD)).zip ds).map Prod.snd = ds := List.map_snd_zip (by rw [List.length_zip, List.length_map]; omega)
    rw [f1, f2] at m
    exact m
  have ee : es = sortD ds := by
    refine sorted_uniq (R := fun x y => leD x y = true) (pd.trans (sortD_perm ds).symm) (fun a ha b hb h3 h4 => ?_) ?_ (sortD_sorted ds)
    · obtain ⟨l, rfl, _, s1⟩ := hd a (pd.mem_iff.mp ha)
      obtain ⟨m, rfl, _, s2⟩ := hd b (pd.mem_iff.mp hb)
      unfold leD at h3 h4
      have k := lex_total (O := itemOrd) (keyD (.tuple l)) (keyD (.tuple m)) (by simpa using h4) (by simpa using h3)
      rw [itm_inj s1 s2 k]
    · rw [d] at hs
      exact (List.pairwise_map.mp hs).imp fun {x y} h => by unfold leD; rw [h]; rfl
  rw [← ee] at q
  exact q r _ hr c
section
variable {g : Gd} {G : List Sl} {te : TE} {ds : List PyData}
theorem el_sort (sh : Nat → Bool) (h : E g te G (.list ds)) (hd : ∀ d ∈ ds, ∃ l, d = .tuple l ∧ l ≠ [] ∧ shD sh 0 l = true) (hz : ds.length ≤ 100000) : EL g (tCB (rSortT g.K) (tCons te tNil)) G (sortD ds) := fun σ F H hh Q q => h σ F H hh _ fun v F1 H1 s1 d1 => by
  obtain ⟨p, vs, rfl, h1, h2⟩ := dp_sq d1
  exact sort_core sh s1.i.ex (s1.i.ex.l h1) h2 hd hz fun r ws hr hw => q r ws F1 _ (s1.trans (Stp.mine s1.i hr)) (old_free s1 hr) (s1.i.free hr) upd_same hw
theorem el_sortO {j : Nat} (sh : Nat → Bool) (h : G[j]? = some (.ow ds)) (hd : ∀ d ∈ ds, ∃ l, d = .tuple l ∧ l ≠ [] ∧ shD sh 0 l = true) (hz : ds.length ≤ 100000) : EL g (tCB (rSortT g.K) (tCons (tVar j) tNil)) G (sortD ds) := fun σ F H hh Q q => by
  obtain ⟨o, e, p, vs, ev, h0, hF, hH, hv⟩ := hh.at_ h
  subst ev
  exact ⟨.ref p, e, sort_core sh hh.st.i.ex (.inl (.inl hH)) hv hd hz fun r ws hr hw => q r ws F _ (Stp.mine hh.st.i hr) hr (hh.st.i.free hr) upd_same hw⟩
end
end DW

namespace DW
open PySem PySem.Spec PyProof.Rows L2

/-! ### dicts with text keys, by data -/
def getK (kvs : List (Str × PyData)) (k : Str) : Option PyData := (kvs.find? fun p => decide (p.1 = k)).map (·.2)
def putD (kvs : List (Str × PyData)) (k : Str) (d : PyData) : List (Str × PyData) := if (kvs.any fun p => decide (p.1 = k)) = true then kvs.map (fun p => if p.1 = k then (p.1, d) else p) else kvs ++ [(k, d)]
section
variable {K : PySem.W.Frag} {F H : Hp}
theorem kv_nil : KvOk K F [] [] := ⟨rfl, .nil⟩
theorem kv_cons {u : Key × V} {vs : List (Key × V)} {p : Str × PyData} {kvs : List (Str × PyData)} (h : KvOk K F (u :: vs) (p :: kvs)) : u.1 = Sum.inr p.1 ∧ Dp K F u.2 p.2 ∧ KvOk K F vs kvs := by
  obtain ⟨h1, h2⟩ := h
  rw [List.map_cons, List.map_cons] at h1 h2
  injection h1 with a b
  cases h2 with
  | cons c d => exact ⟨a, c, b, d⟩
theorem kv_mk {u : Key × V} {vs : List (Key × V)} {p : Str × PyData} {kvs : List (Str × PyData)} (a : u.1 = Sum.inr p.1) (b : Dp K F u.2 p.2) (h : KvOk K F vs kvs) : KvOk K F (u :: vs) (p :: kvs) :=
  ⟨by rw [List.map_cons, List.map_cons, a, h.ks], .cons b h.ds⟩
theorem kv_len {vs : List (Key × V)} {kvs : List (Str × PyData)} (h : KvOk K F vs kvs) : vs.length = kvs.length := by
  have := congrArg List.length h.ks
  rwa [List.length_map, List.length_map] at this
theorem inr_dec {x y : Str} : decide ((Sum.inr x : Key) = Sum.inr y) = decide (x = y) := by
  by_cases h : x = y
  · rw [decide_eq_true h, decide_eq_true (by rw [h])]
  · rw [decide_eq_false h, decide_eq_false fun z => h (Sum.inr.inj z)]
theorem kv_get {k : Str} : ∀ {vs : List (Key × V)} {kvs : List (Str × PyData)}, KvOk K F vs kvs → (∀ d, getK kvs k = some d → ∃ v, valV vs (Sum.inr k : Key) = some v ∧ Dp K F v d) ∧ (getK kvs k = none → valV vs (Sum.inr k : Key) = none)
  | [], [], _ => ⟨fun d h => (by cases h), fun _ => rfl⟩
  | [], _ :: _, h => by cases h.ks
  | _ :: _, [], h => by cases h.ks
  | u :: vs, p :: kvs, h => by
    obtain ⟨a, b, c⟩ := kv_cons h
    have ih := kv_get (k := k) c
    unfold getK valV at ih ⊢
    rw [List.find?_cons, List.find?_cons, a, inr_dec]
    by_cases e : p.1 = k
    · rw [decide_eq_true e]
      refine ⟨fun d h => ?_, fun h => (by cases h)⟩
      cases h
      exact ⟨u.2, rfl, b⟩
    · rw [decide_eq_false e]
      exact ih
theorem kv_any {k : Str} : ∀ {vs : List (Key × V)} {kvs : List (Str × PyData)}, KvOk K F vs kvs → (vs.any fun kv => decide (kv.1 = (Sum.inr k : Key))) = (kvs.any fun p => decide (p.1 = k))
  | [], [], _ => rfl
  | [], _ :: _, h => by cases h.ks
  | _ :: _, [], h => by cases h.ks
  | u :: vs, p :: kvs, h => by
    obtain ⟨a, b, c⟩ := kv_cons h
    rw [List.any_cons, List.any_cons, a, inr_dec, kv_any c]
theorem kv_map {k : Str} {v : V} {d : PyData} (hd : Dp K F v d) : ∀ {vs : List (Key × V)} {kvs : List (Str × PyData)}, KvOk K F vs kvs → KvOk K F (vs.map fun kv => if kv.1 = (Sum.inr k : Key) then (kv.1, v) else kv) (kvs.map fun p => if p.1 = k then (p.1, d) else p)
  | [], [], h => h
  | [], _ :: _, h => by cases h.ks
  | _ :: _, [], h => by cases h.ks
  | u :: vs, p :: kvs, h => by
    obtain ⟨a, b, c⟩ := kv_cons h
    rw [List.map_cons, List.map_cons]
    by_cases e : p.1 = k
    · rw [if_pos e, if_pos (by rw [a, e])]
      exact kv_mk a hd (kv_map hd c)
    · rw [if_neg e, if_neg (fun z => e (Sum.inr.inj (a.symm.trans z)))]
      exact kv_mk a b (kv_map hd c)
theorem kv_app {v : V} {d : PyData} {k : Str} (hd : Dp K F v d) : ∀ {vs : List (Key × V)} {kvs : List (Str × PyData)}, KvOk K F vs kvs → KvOk K F (vs ++ [(Sum.inr k, v)]) (kvs ++ [(k, d)])
  | [], [], _ => kv_mk rfl hd kv_nil
  | [], _ :: _, h => by cases h.ks
  | _ :: _, [], h => by cases h.ks
  | u :: vs, p :: kvs, h => by
    obtain ⟨a, b, c⟩ := kv_cons h
    exact kv_mk a b (kv_app hd c)
theorem kv_put {k : Str} {v : V} {d : PyData} {vs : List (Key × V)} {kvs : List (Str × PyData)} (h : KvOk K F vs kvs) (hd : Dp K F v d) : KvOk K F (putK vs (Sum.inr k : Key) v) (putD kvs k d) := by
  unfold putK putD
  rw [kv_any h]
  by_cases e : (kvs.any fun p => decide (p.1 = k)) = true
  · rw [if_pos e, if_pos e]; exact kv_map hd h
  · rw [if_neg e, if_neg e]; exact kv_app hd h
theorem kv_keys {vs : List (Key × V)} {kvs : List (Str × PyData)} (h : KvOk K F vs kvs) : vs.map (·.1) = (kvs.map (·.1)).map Sum.inr := by rw [h.ks, List.map_map]; rfl
theorem dps_strs : ∀ (ks : List Str), DpAll K F (ks.map V.str) (ks.map PyData.str)
  | [] => .nil
  | k :: ks => .cons (.str k) (dps_strs ks)
end
/-- the dict of a slot -/
def Sl.kv : Sl → Option (List (Str × PyData))
  | .od kvs => some kvs
  | .fk kvs => some kvs
  | _ => none
section
variable {g : Gd} {G G' : List Sl} {te ta tb ty tv : TE} {tw : TS} {d x y : PyData} {ds : List PyData} {kvs : List (Str × PyData)} {i j : Nat} {D : Ends}
theorem dict_at {σ : L2.St} {F H : Hp} (hh : Holds g G σ F H) (h : (G[i]?).bind Sl.kv = some kvs) : ∃ p vs, σ[i]? = some (some (.ref p)) ∧ Rd H p (.dK vs) ∧ KvOk g.K F vs kvs := by
  cases e : G[i]? with
  | none => rw [e] at h; cases h
  | some s =>
    rw [e] at h
    obtain ⟨o, eo, ok⟩ := hh.at_ e
    cases s <;> first | cases h | skip
    · obtain ⟨p, vs, rfl, _, _, hH, hk⟩ := ok
      exact ⟨p, vs, eo, .inl hH, hk⟩
    · obtain ⟨p, vs, rfl, hr, hk⟩ := ok
      exact ⟨p, vs, eo, hh.st.i.ex.rd hr (fun _ z => by cases z), hk⟩
theorem rd_h {F H F' H' : Hp} (s : Stp F H F' H') {p : Addr} {vs : List (Key × V)} (h : Rd H p (.dK vs)) : Rd H' p (.dK vs) := s.h.rd h fun _ z => by cases z
/-- d[k] -/
theorem e_dget {k : Str} (h : (G[i]?).bind Sl.kv = some kvs) (hk : E g ty G (.str k)) (e : getK kvs k = some d) : E g (tDGet (tVar i) ty) G d := fun σ F H hh Q q => by
  obtain ⟨p, vs, ev, hr, hv⟩ := dict_at hh h
  refine ⟨.ref p, ev, hk σ F H hh _ fun u F1 H1 s1 d1 => ?_⟩
  cases d1
  obtain ⟨v, e1, e2⟩ := (kv_get hv).1 d e
  exact ⟨p, v, rfl, .inl ⟨vs, .inr k, rd_h s1 hr, rfl, e1.symm⟩, q v F1 H1 s1 (s1.f.dp d v e2)⟩
/-- d.get(k, x) -/
theorem e_dget2 {k : Str} (h : (G[i]?).bind Sl.kv = some kvs) (hk : E g ty G (.str k)) (hx : E g tv G x) : E g (tDGet2 (tVar i) ty tv) G ((getK kvs k).getD x) := fun σ F H hh Q q => by
  obtain ⟨p, vs, ev, hr, hv⟩ := dict_at hh h
  refine ⟨.ref p, ev, p, rfl, .inl ⟨vs, hr⟩, hk σ F H hh _ fun u F1 H1 s1 d1 => hx σ F1 H1 (hh.mono s1) _ fun z F2 H2 s2 d2 => ?_⟩
  cases d1
  refine ⟨valV vs (Sum.inr k : Key), .inl ⟨vs, .inr k, rd_h s2 (rd_h s1 hr), rfl, rfl⟩, ?_⟩
  cases e : getK kvs k with
  | none => rw [e] at q; rw [(kv_get hv).2 e]; exact q z F2 H2 (s1.trans s2) d2
  | some d =>
    obtain ⟨v, e1, e2⟩ := (kv_get hv).1 d e
    rw [e] at q; rw [e1]; exact q v F2 H2 (s1.trans s2) ((s1.trans s2).f.dp d v e2)
/-- a new dict -/
theorem s_dnew (k : N g D.nx (G.set i (.od []))) : S g (tAsg tDNewK (gName i)) D G := fun σ F H hh p hp =>
  k _ F _ ((hh.mono (Stp.mine hh.st.i hp)).set (s := .od []) ⟨p, [], rfl, old_free hh.st hp, hh.st.i.free hp, upd_same, kv_nil⟩ fun _ j t _ e1 m e2 => new_ok hh hp j ⟨t, e1, m⟩ e2)
theorem q_dnew (k : S g tw D (G.set i (.od []))) : S g (tSeq (tAsg tDNewK (gName i)) tw) D G := s_dnew (D := { D with nx := tw D }) k
/-- d[k] = v -/
theorem s_dput {k : Str} (h : G[i]? = some (.od kvs)) (hk : E g ty G (.str k)) (hv : E g tv G d) (hz : kvs.length < 100000) (kk : N g D.nx (G.set i (.od (putD kvs k d)))) : S g (sDPut (tVar i) ty tv) D G := fun σ F H hh => hv σ F H hh _ fun v F1 H1 s1 d1 => by
  obtain ⟨o, e, p, vs, ev, h0, hF, hH, hd⟩ := hh.at_ h
  subst ev
  refine ⟨.ref p, e, hk σ F1 H1 (hh.mono s1) _ fun u F2 H2 s2 d2 => ?_⟩
  cases d2
  have s := s1.trans s2
  have hH1 := s.h.dk hH
  have hF1 := s.n p _ hH hF
  refine ⟨p, upd H2 p (.dK (putK vs (Sum.inr k : Key) v)), rfl, .inl ⟨vs, .inr k, hH1, rfl, Nat.lt_of_lt_of_le (by rw [kv_len hd]; exact hz) (by decide), rfl⟩, ?_⟩
  have hi : i < σ.length := (List.getElem?_eq_some_iff.mp e).1
  have hs : σ.set i (some (.ref p)) = σ := by
    apply List.ext_getElem?
    intro j
    by_cases hj : i = j
    · subst hj; rw [List.getElem?_set_self hi, e]
    · rw [List.getElem?_set_ne hj]
  have base := hh.mono s
  have h1 : Holds g (G.set i .un) σ F2 H2 := base.weak (by rw [List.length_set]) fun j s ej => by
    by_cases hj : i = j
    · subst hj; rw [List.getElem?_set_self (by rw [← hh.len]; exact hi)] at ej; cases ej; exact .inl rfl
    · rw [List.getElem?_set_ne hj] at ej; exact .inr ej
  have other : ∀ (j : Nat) (t : Sl), j ≠ i → G[j]? = some t → t.mine = true → σ[j]? ≠ some (some (.ref p)) := fun j t hj ej m z => hj (hh.apart j i t (.od kvs) p ej h m rfl z e)
  have h2 : Holds g (G.set i .un) σ F2 (upd H2 p (.dK (putK vs (Sum.inr k : Key) v))) := h1.mut h0 hF1 hH1 (fun _ z => by cases z) fun j t ej m => by
    by_cases hj : i = j
    · subst hj; rw [List.getElem?_set_self (by rw [← hh.len]; exact hi)] at ej; cases ej; cases m
    · rw [List.getElem?_set_ne hj] at ej; exact other j t (Ne.symm hj) ej m
  have h3 := h2.set (i := i) (v := .ref p) (s := .od (putD kvs k d)) ⟨p, _, rfl, h0, hF1, upd_same, kv_put (hd.mono s.f) (s2.f.dp d v d1)⟩ fun _ j t hj ej m => by
    rw [List.getElem?_set_ne (Ne.symm hj)] at ej; exact other j t hj ej m
  rw [List.set_set, hs] at h3
  exact kk σ F2 _ h3
theorem q_dput {k : Str} (h : G[i]? = some (.od kvs)) (hk : E g ty G (.str k)) (hv : E g tv G d) (hz : kvs.length < 100000) (kk : S g tw D (G.set i (.od (putD kvs k d)))) : S g (tSeq (sDPut (tVar i) ty tv) tw) D G := s_dput (D := { D with nx := tw D }) h hk hv hz kk

/-! ### list(d), sorted(d) -/
def rListW (K : PySem.W.Frag) : List V → Hp → VK → Prop := fun xs H Q => rListU K xs H Q ∨ rListD xs H Q
theorem uListW {X : Cx} (hc : X.calm = true) : CallR X (.type "list") (rListW X.K) := fun pins s σ H xs us Q I vs h => by
  rcases h with h | h
  · exact uList pins s σ H xs us Q I vs h
  · exact call_list_dK hc pins s σ H xs us Q I vs h
theorem lw_list (h : E g te G (.list ds)) : EL g (tCB (rListW g.K) (tCons te tNil)) G ds := fun σ F H hh Q q => h σ F H hh _ fun v F1 H1 s1 d1 => by
  obtain ⟨a, vs, rfl, h1, h2⟩ := dp_sq d1
  exact .inl ⟨a, vs, rfl, .inl (s1.i.ex.l h1), fun p hp => q p vs F1 _ (s1.trans (Stp.mine s1.i hp)) (old_free s1 hp) (s1.i.free hp) upd_same h2⟩
theorem lw_tup (h : E g te G (.tuple ds)) : EL g (tCB (rListW g.K) (tCons te tNil)) G ds := fun σ F H hh Q q => h σ F H hh _ fun v F1 H1 s1 d1 => by
  obtain ⟨a, vs, rfl, h1, h2⟩ := dp_tq d1
  exact .inl ⟨a, vs, rfl, .inr (s1.i.ex.t h1), fun p hp => q p vs F1 _ (s1.trans (Stp.mine s1.i hp)) (old_free s1 hp) (s1.i.free hp) upd_same h2⟩
theorem lw_own {j : Nat} (h : G[j]? = some (.ow ds)) : EL g (tCB (rListW g.K) (tCons (tVar j) tNil)) G ds := fun σ F H hh Q q => by
  obtain ⟨o, e, p, vs, ev, h0, hF, hH, hd⟩ := hh.at_ h
  subst ev
  exact ⟨.ref p, e, .inl ⟨p, vs, rfl, .inl (.inl (.inl hH)), fun l hl => q l vs F _ (Stp.mine hh.st.i hl) hl (hh.st.i.free hl) upd_same hd⟩⟩
theorem kv_kV {K : PySem.W.Frag} {F : Hp} {vs : List (Key × V)} (h : KvOk K F vs kvs) : vs.map (fun kv => kV kv.1) = (kvs.map (·.1)).map V.str := by
  have e := congrArg (List.map kV) (kv_keys h)
  rw [List.map_map, List.map_map] at e
  exact e
theorem lw_dict {j : Nat} (h : G[j]? = some (.od kvs)) : EL g (tCB (rListW g.K) (tCons (tVar j) tNil)) G ((kvs.map (·.1)).map .str) := fun σ F H hh Q q => by
  obtain ⟨o, e, p, vs, ev, h0, hF, hH, hd⟩ := hh.at_ h
  subst ev
  refine ⟨.ref p, e, .inr ⟨p, vs, rfl, hH, fun l hl => ?_⟩⟩
  rw [kv_kV hd]
  exact q l _ F _ (Stp.mine hh.st.i hl) hl (hh.st.i.free hl) upd_same (dps_strs _)
/-! sorted: tuples, texts, a dict's keys -/
def rSortU (K : PySem.W.Frag) : List V → Hp → VK → Prop := fun vs H Q => rSortT K vs H Q ∨ (∃ (a : Addr) (kvs : List (Key × V)) (ks : List Str), vs = [.ref a] ∧ Rd H a (.dK kvs) ∧ kvs.map (·.1) = ks.map Sum.inr ∧ ks.length < 64 ∧ ∀ ys p, ys.Perm ks → sortedS ys = true → H p = none → Q (.ref p) (upd H p (.lst (ys.map V.str)))) ∨ rSortedS K vs H Q
theorem uSort {X : Cx} (hc : X.calm = true) : CallR X (.builtin "sorted") (rSortU X.K) := fun pins s σ H xs us Q I vs h => by
  rcases h with h | h | h
  · exact cr_sortT5 pins s σ H xs us Q I vs h
  · exact call_sortedD hc pins s σ H xs us Q I vs h
  · exact cr_sortedS pins s σ H xs us Q I vs h
theorem so_own {j : Nat} (sh : Nat → Bool) (h : G[j]? = some (.ow ds)) (hd : ∀ d ∈ ds, ∃ l, d = .tuple l ∧ l ≠ [] ∧ shD sh 0 l = true) (hz : ds.length ≤ 100000) : EL g (tCB (rSortU g.K) (tCons (tVar j) tNil)) G (sortD ds) := fun σ F H hh Q q => by
  obtain ⟨o, e, p, vs, ev, h0, hF, hH, hv⟩ := hh.at_ h
  subst ev
  exact ⟨.ref p, e, .inl (sort_core sh hh.st.i.ex (.inl (.inl hH)) hv hd hz fun r ws hr hw => q r ws F _ (Stp.mine hh.st.i hr) hr (hh.st.i.free hr) upd_same hw)⟩
theorem so_list (sh : Nat → Bool) (h : E g te G (.list ds)) (hd : ∀ d ∈ ds, ∃ l, d = .tuple l ∧ l ≠ [] ∧ shD sh 0 l = true) (hz : ds.length ≤ 100000) : EL g (tCB (rSortU g.K) (tCons te tNil)) G (sortD ds) := fun σ F H hh Q q => h σ F H hh _ fun v F1 H1 s1 d1 => by
  obtain ⟨p, vs, rfl, h1, h2⟩ := dp_sq d1
  exact .inl (sort_core sh s1.i.ex (s1.i.ex.l h1) h2 hd hz fun r ws hr hw => q r ws F1 _ (s1.trans (Stp.mine s1.i hr)) (old_free s1 hr) (s1.i.free hr) upd_same hw)
/-- the order of texts -/
theorem ltc_eq : ∀ (a b : List Nat), ltCps a b = decide (a < b)
  | [], [] => by rw [ltCps.eq_1]; exact (decide_eq_false (List.lt_irrefl _)).symm
  | [], y :: b => by rw [ltCps.eq_2]; exact (decide_eq_true (List.nil_lt_cons _ _)).symm
  | x :: a, [] => by rw [ltCps.eq_3]; exact (decide_eq_false (List.not_lt_nil _)).symm
  | x :: a, y :: b => by
    rw [ltCps.eq_4, ltc_eq a b, Bool.eq_iff_iff, decide_eq_true_iff, List.cons_lt_cons_iff, Bool.or_eq_true, Bool.and_eq_true, decide_eq_true_iff, decide_eq_true_iff, beq_iff_eq]
def ltS (x y : Str) : Bool := decide (x.cps.toList < y.cps.toList)
def leS (x y : Str) : Bool := !ltS y x
def sortS (ks : List Str) : List Str := ks.mergeSort leS
theorem ltS_irr (x : Str) : ltS x x = false := strKind.irrefl x.cps.toList
theorem ltS_trans {x y z : Str} (h1 : ltS x y = true) (h2 : ltS y z = true) : ltS x z = true := strKind.trans _ _ _ h1 h2
theorem ltS_tot {x y : Str} (h1 : ltS x y = false) (h2 : ltS y x = false) : x = y := by
  have := strKind.total x.cps.toList y.cps.toList h1 h2
  cases x with
  | mk a => cases y with
    | mk b => congr 1; exact Array.toList_inj.mp this
theorem leS_trans (x y z : Str) (h1 : leS x y = true) (h2 : leS y z = true) : leS x z = true := by
  unfold leS at *
  have a1 : ltS y x = false := by simpa using h1
  have a2 : ltS z y = false := by simpa using h2
  cases h3 : ltS z x with
  | false => rfl
  | true =>
    rcases strKind.negTrans z.cps.toList y.cps.toList x.cps.toList h3 with h | h
    · have h' : ltS z y = true := h
      rw [a2] at h'; cases h'
    · have h' : ltS y x = true := h
      rw [a1] at h'; cases h'
theorem leS_total (x y : Str) : (leS x y || leS y x) = true := by
  unfold leS
  cases h1 : ltS y x with
  | false => rfl
  | true =>
    cases h2 : ltS x y with
    | false => rfl
    | true => have := ltS_trans h1 h2; rw [ltS_irr] at this; cases this
theorem leS_anti {x y : Str} (h1 : leS x y = true) (h2 : leS y x = true) : x = y := by
  unfold leS at h1 h2; exact ltS_tot (by simpa using h2) (by simpa using h1)
theorem risS_pw : ∀ {l : List Str} {x : Str}, risingS x l = true → (x :: l).Pairwise fun a b => leS a b = true
  | [], x, _ => List.pairwise_singleton _ _
  | y :: l, x, h => by
    rw [risingS.eq_2, Bool.and_eq_true] at h
    have ih := risS_pw h.2
    refine List.pairwise_cons.mpr ⟨fun z hz => ?_, ih⟩
    rcases List.mem_cons.mp hz with e | hz
    · rw [e, leS, ltS, ← ltc_eq]; exact h.1
    · exact leS_trans x y z (by rw [leS, ltS, ← ltc_eq]; exact h.1) ((List.pairwise_cons.mp ih).1 z hz)
theorem sortedS_pw : ∀ {l : List Str}, sortedS l = true → l.Pairwise fun a b => leS a b = true
  | [], _ => List.Pairwise.nil
  | _ :: _, h => risS_pw h
theorem sortS_perm (ks : List Str) : (sortS ks).Perm ks := List.mergeSort_perm ks leS
theorem sortS_sorted (ks : List Str) : (sortS ks).Pairwise fun x y => leS x y = true := List.pairwise_mergeSort leS_trans leS_total ks
theorem sortS_uniq {ys ks : List Str} (p : ys.Perm ks) (h : sortedS ys = true) : ys = sortS ks :=
  sorted_uniq (R := fun x y => leS x y = true) (p.trans (sortS_perm ks).symm) (fun a _ b _ h3 h4 => leS_anti h3 h4) (sortedS_pw h) (sortS_sorted ks)
/-- sorted(d) -/
theorem so_dict (h : (G[i]?).bind Sl.kv = some kvs) (hz : kvs.length < 64) : EL g (tCB (rSortU g.K) (tCons (tVar i) tNil)) G ((sortS (kvs.map (·.1))).map .str) := fun σ F H hh Q q => by
  obtain ⟨p, vs, ev, hr, hv⟩ := dict_at hh h
  refine ⟨.ref p, ev, .inr (.inl ⟨p, vs, kvs.map (·.1), rfl, hr, kv_keys hv, by rw [List.length_map]; exact hz, fun ys r pm so hn => ?_⟩)⟩
  rw [sortS_uniq pm so]
  exact q r _ F _ (Stp.mine hh.st.i hn) hn (hh.st.i.free hn) upd_same (dps_strs _)

/-! ### isinstance, a range with a step -/
theorem e_isiT (h : B g te G (.tuple ds)) : E g (tCB (rIsi g.K) (tCons te (tCons (tC (.ty "tuple")) tNil))) G (.bool true) := fun σ F H hh Q q => h σ F H hh _ fun v F1 H1 s1 d1 => by
  obtain ⟨a, vs, rfl, h1, h2⟩ := dp_tq d1
  refine ⟨.ref a, .ty "tuple", .type "tuple", .type "tuple", true, rfl, .ty "tuple", ?_, by unfold PySem.W.kitOne; rw [if_pos (by decide +kernel)], q _ F1 H1 s1 (.bl true)⟩
  rcases h1 with (h1 | ⟨o, h1⟩) | ⟨o, its, n, e1, e2, _⟩
  · exact .base (.tup h1)
  · exact .fTuple h1
  · exact .kTuple e1 e2
theorem e_isiL (h : B g te G (.list ds)) : E g (tCB (rIsi g.K) (tCons te (tCons (tC (.ty "list")) tNil))) G (.bool true) := fun σ F H hh Q q => h σ F H hh _ fun v F1 H1 s1 d1 => by
  obtain ⟨a, vs, rfl, h1, h2⟩ := dp_sq d1
  refine ⟨.ref a, .ty "list", .type "list", .type "list", true, rfl, .ty "list", ?_, by unfold PySem.W.kitOne; rw [if_pos (by decide +kernel)], q _ F1 H1 s1 (.bl true)⟩
  rcases h1 with (h1 | ⟨o, h1⟩) | ⟨o, its, n, e1, e2, _⟩
  · exact .base (.lst h1)
  · exact .base (.frz h1)
  · exact .kList e1 e2
theorem e_isiS {s : Str} (h : B g te G (.str s)) : E g (tCB (rIsi g.K) (tCons te (tCons (tC (.ty "str")) tNil))) G (.bool true) := fun σ F H hh Q q => h σ F H hh _ fun v F1 H1 s1 d1 => by
  cases d1
  exact ⟨.str s, .ty "str", .type "str", .type "str", true, rfl, .ty "str", .base (.str s), by unfold PySem.W.kitOne; rw [if_pos (by decide +kernel)], q _ F1 H1 s1 (.bl true)⟩
/-- the ints from lo on, by steps -/
def rngC (lo c : Int) (n : Nat) : List PyData := (List.range n).map fun i => .int (lo + (i : Nat) * c)
theorem rngC_len (lo c : Int) (n : Nat) : (rngC lo c n).length = n := by unfold rngC; rw [List.length_map, List.length_range]
theorem rngC_get {lo c : Int} {n i : Nat} {d : PyData} (h : (rngC lo c n)[i]? = some d) : i < n ∧ d = .int (lo + (i : Nat) * c) := by
  unfold rngC at h
  rw [List.getElem?_map] at h
  by_cases hi : i < n
  · rw [List.getElem?_range hi] at h; exact ⟨hi, (Option.some.inj h).symm⟩
  · rw [List.getElem?_eq_none (by rw [List.length_range]; omega)] at h; cases h
theorem it_rng3 {ta : TA} {lo hi c : Int} {n : Nat} (h : A g ta G [.int lo, .int hi, .int c]) (hr : RgC lo hi c n) : IT g (iRng3 ta) G (rngC lo c n) := fun σ F H hh R r => h σ F H hh _ fun vs F1 H1 s1 d1 => by
  cases d1 with
  | cons a t =>
    cases t with
    | cons b t =>
      cases t with
      | cons d t =>
        cases t; cases a; cases b; cases d
        exact ⟨lo, hi, c, n, rfl, hr, r _ F1 H1 s1 ⟨fun i F H _ _ hi => by rw [rngC_len] at hi; exact hi, fun F H _ _ => by rw [rngC_len]; exact Nat.le_refl _, fun i F H x H' d _ sb hd hy => by
          obtain ⟨rfl, rfl⟩ := hy
          obtain ⟨_, rfl⟩ := rngC_get hd
          exact ⟨F, Stp.refl sb, .int _⟩⟩⟩

end

/-! == and != -/
def rEqU (K : PySem.W.Frag) : R2 := fun x y H Q => rEq x y H Q ∨ rEqD K x y H Q
def rNeU (K : PySem.W.Frag) : R2 := fun x y H Q => rNe x y H Q ∨ rNeD K x y H Q
theorem uEq {X : Cx} (hu : X.A.units + 64 < cLine) : OpR X (compareOp .Eq) (rEqU X.K) := op_eq.or (op_eqD hu)
theorem uNe {X : Cx} (hu : X.A.units + 64 < cLine) : OpR X (compareOp .NotEq) (rNeU X.K) := op_ne.or (op_neD hu)
section
variable {g : Gd} {x y : PyData}
theorem eqd (hx : SeqAt.shaped x = true) (hy : SeqAt.shaped y = true) : RB g (rEqU g.K) x y (.bool (PyData.eqv x y)) := fun u v H hu hv Q q => .inr ⟨x, y, hu, hv, hx, hy, q _ (.bl _)⟩
theorem ned (hx : SeqAt.shaped x = true) (hy : SeqAt.shaped y = true) : RB g (rNeU g.K) x y (.bool (!PyData.eqv x y)) := fun u v H hu hv Q q => .inr ⟨x, y, hu, hv, hx, hy, q _ (.bl _)⟩
theorem dec_inj {α β : Type} [DecidableEq α] [DecidableEq β] (f : α → β) (hf : ∀ a b, f a = f b → a = b) (a b : α) : decide (f a = f b) = decide (a = b) := by
  by_cases h : a = b
  · rw [decide_eq_true h, decide_eq_true (by rw [h])]
  · rw [decide_eq_false h, decide_eq_false fun z => h (hf a b z)]
theorem eq_i {a b : Int} : RB g (rEqU g.K) (.int a) (.int b) (.bool (decide (a = b))) := fun u v H hu hv Q q => by
  cases hu; cases hv
  refine .inl ⟨rfl, ?_⟩
  rw [dec_inj V.int fun a b z => V.int.inj z]; exact q _ (.bl _)
theorem ne_i {a b : Int} : RB g (rNeU g.K) (.int a) (.int b) (.bool (!decide (a = b))) := fun u v H hu hv Q q => by
  cases hu; cases hv
  refine .inl ⟨rfl, ?_⟩
  rw [dec_inj V.int fun a b z => V.int.inj z]; exact q _ (.bl _)
theorem eq_s {a b : Str} : RB g (rEqU g.K) (.str a) (.str b) (.bool (decide (a = b))) := fun u v H hu hv Q q => by
  cases hu; cases hv
  refine .inl ⟨rfl, ?_⟩
  rw [dec_inj V.str fun a b z => V.str.inj z]; exact q _ (.bl _)
theorem ne_s {a b : Str} : RB g (rNeU g.K) (.str a) (.str b) (.bool (!decide (a = b))) := fun u v H hu hv Q q => by
  cases hu; cases hv
  refine .inl ⟨rfl, ?_⟩
  rw [dec_inj V.str fun a b z => V.str.inj z]; exact q _ (.bl _)
end

/-! ### defs that take dicts -/
inductive Ag where
  | d (x : PyData)
  | k (kvs : List (Str × PyData))
def AgOk (K : PySem.W.Frag) (F : Hp) (v : V) : Ag → Prop
  | .d x => Dp K F v x
  | .k kvs => ∃ p vs, v = .ref p ∧ Rd F p (.dK vs) ∧ KvOk K F vs kvs
def Ag.sl : Ag → Sl
  | .d x => .fz x
  | .k kvs => .fk kvs
inductive AgAll (K : PySem.W.Frag) (F : Hp) : List V → List Ag → Prop
  | nil : AgAll K F [] []
  | cons {v : V} {a : Ag} {vs : List V} {as : List Ag} (h : AgOk K F v a) (t : AgAll K F vs as) : AgAll K F (v :: vs) (a :: as)
theorem AgOk.mono {K : PySem.W.Frag} {F H : Hp} {v : V} (e : Ex F H) : ∀ {a : Ag}, AgOk K F v a → AgOk K H v a
  | .d x, h => e.dp x v h
  | .k kvs, ⟨p, vs, ev, hr, hk⟩ => ⟨p, vs, ev, e.rd hr (fun _ z => by cases z), hk.mono e⟩
theorem AgAll.mono {K : PySem.W.Frag} {F H : Hp} (e : Ex F H) : ∀ {vs : List V} {as : List Ag}, AgAll K F vs as → AgAll K H vs as
  | _, _, .nil => .nil
  | _, _, .cons h t => .cons (h.mono e) (AgAll.mono e t)
theorem AgAll.len {K : PySem.W.Frag} {F : Hp} : ∀ {vs : List V} {as : List Ag}, AgAll K F vs as → vs.length = as.length
  | _, _, .nil => rfl
  | _, _, .cons _ t => by rw [List.length_cons, List.length_cons, AgAll.len t]
theorem AgAll.get {K : PySem.W.Frag} {F : Hp} : ∀ {vs : List V} {as : List Ag} {i : Nat} {a : Ag}, AgAll K F vs as → as[i]? = some a → ∃ v, vs[i]? = some v ∧ AgOk K F v a
  | _, _, _, _, .nil, e => by simp at e
  | _, _, 0, _, .cons h _, e => by simp at e; subst e; exact ⟨_, rfl, h⟩
  | _, _, i + 1, a, .cons _ t, e => by
    obtain ⟨v, h1, h2⟩ := AgAll.get (i := i) (a := a) t (by simpa using e)
    exact ⟨v, by simpa using h1, h2⟩
def spK (K : PySem.W.Frag) (Tb : List Addr) (R : List Ag → PyData → Prop) : Sp := fun vs H Q _ => ∃ F as d, Sub F H ∧ (∀ P ∈ Tb, GxR.TabG H P) ∧ AgAll K F vs as ∧ R as d ∧ ∀ v F' H', Stp F H F' H' → Dp K F' v d → Q v H'
def startK (n : Nat) (as : List Ag) : List Sl := as.map Ag.sl ++ List.replicate (n - as.length) .un
theorem holds_startK {K : PySem.W.Frag} {Tb : List Addr} {F H : Hp} {vs : List V} {as : List Ag} {Nn : List Str} (sb : Sub F H) (ht : ∀ P ∈ Tb, GxR.TabG H P) (hd : AgAll K F vs as) : Holds ⟨K, Tb, F, H, F⟩ (startK Nn.length as) (L2.start Nn vs) F H := by
  have hl := hd.len
  refine ⟨by unfold L2.start startK; rw [List.length_append, List.length_append, List.length_map, List.length_map, List.length_replicate, List.length_replicate, hl], Stp.refl sb, fun j s o e1 e2 => ?_, fun j k s t p e1 _ m1 _ _ _ => ?_, ht, Ex.refl F⟩
  · unfold startK at e1
    unfold L2.start at e2
    by_cases hj : j < as.length
    · rw [List.getElem?_append_left (by rw [List.length_map]; exact hj), List.getElem?_map] at e1
      rw [List.getElem?_append_left (by rw [List.length_map, hl]; exact hj), List.getElem?_map] at e2
      cases h1 : as[j]? with
      | none => rw [h1] at e1; cases e1
      | some d =>
        rw [h1] at e1; cases e1
        obtain ⟨v, h2, h3⟩ := hd.get h1
        rw [h2] at e2; cases e2
        cases d with
        | d x => exact ⟨v, rfl, h3⟩
        | k kvs => obtain ⟨p, vs, rfl, hr, hk⟩ := h3; exact ⟨p, vs, rfl, hr, hk⟩
    · rw [List.getElem?_append_right (by rw [List.length_map]; omega), List.getElem?_replicate] at e1
      split at e1
      · cases e1; trivial
      · cases e1
  · have no : ∀ (s : Sl), (startK Nn.length as)[j]? = some s → s.mine = false := fun s e => by
      unfold startK at e
      rcases List.mem_append.mp (List.mem_of_getElem? e) with h | h
      · obtain ⟨d, _, rfl⟩ := List.mem_map.mp h; cases d <;> rfl
      · rw [(List.mem_replicate.mp h).2]; rfl
    rw [no s e1] at m1; cases m1
section
variable {g : Gd} {G : List Sl} {te : TE} {ta : TA} {d x : PyData} {as : List Ag} {kvs : List (Str × PyData)} {i : Nat}
def AX (g : Gd) (ta : TA) (G : List Sl) (as : List Ag) : Prop := ∀ σ F H, Holds g G σ F H → ∀ Q : List V → Hp → Prop, (∀ vs F' H', Stp F H F' H' → AgAll g.K H' vs as → Q vs H') → ta σ H Q
theorem ax_nil : AX g tNil G [] := fun σ F H hh Q q => q [] F H (Stp.refl hh.st.i) .nil
theorem ax_d {tr : TA} (h : B g te G x) (hr : AX g tr G as) : AX g (tCons te tr) G (.d x :: as) := fun σ F H hh Q q =>
  h σ F H hh _ fun v F1 H1 s1 d1 => hr σ F1 H1 (hh.mono s1) _ fun vs F2 H2 s2 d2 => q (v :: vs) F2 H2 (s1.trans s2) (.cons (show AgOk g.K H2 v (.d x) from s2.h.dp x v d1) d2)
theorem ax_k {tr : TA} (h : (G[i]?).bind Sl.kv = some kvs) (hr : AX g tr G as) : AX g (tCons (tVar i) tr) G (.k kvs :: as) := fun σ F H hh Q q => by
  obtain ⟨p, vs, ev, hd, hv⟩ := dict_at hh h
  exact ⟨.ref p, ev, hr σ F H hh _ fun ws F2 H2 s2 d2 => q (.ref p :: ws) F2 H2 s2 (.cons (show AgOk g.K H2 (.ref p) (.k kvs) from ⟨p, vs, rfl, rd_h s2 hd, (hv.mono hh.st.i.ex).mono s2.h⟩) d2)⟩
theorem x_call {R : List Ag → PyData → Prop} {Ek : XK} (h : AX g ta G as) (r : R as d) (hs : scalD d = true) : E g (tCall (spK g.K g.T R) [] Ek ta) G d := fun σ F H hh Q q => h σ F H hh _ fun vs F1 H1 s1 d1 => by
  rw [List.append_nil]
  exact ⟨cut H1, as, d, sub_cut H1, (hh.mono s1).tab, d1.mono (ex_cut H1), r, fun v F2 H2 s2 d2 => q v F1 H2 (s1.trans (Stp.back s1.i s2)) (dp_scal hs d2)⟩
end
section
variable {P : Program} {w : World} {K : PySem.W.Frag} {mg : Str → Option Value} {base : Heap} {x qual : Str} {st : Stmt} {f : Addr} {fd : FuncData} {Nn ps : List Str} {k : Nat} {Tb : List Addr}
theorem df_K (F : Fun K x qual st f fd) (Sc : FnScope Nn ps (defScope st)) (hm : mg x = some (.ref f)) (hb : Binds K fd ps []) {R : List Ag → PyData → Prop} (hlen : ∀ as d, R as d → as.length = ps.length)
    (body : ∀ (cdv : Value) (A : Around) (outer : List Env) (s : Shared) (H : Hp) (E : XK), Room k (A.deeper (envOfC qual (defScope st) s.heap.objs.size f cdv)) →
      ∃ t, PSs (cxOf CX0 P w K mg base Nn qual (defScope st) f cdv A outer s H E).nox (defBody st) t ∧ ∀ (as : List Ag) (d : PyData) (F0 H0 : Hp) (Q : VK), R as d → Rt ⟨K, Tb, F0, H0, F0⟩ Q d → S ⟨K, Tb, F0, H0, F0⟩ t { nx := fun _ H' => Q .non H', rt := Q } (startK Nn.length as)) :
    Df P w K mg base (k + 1) x ps (spK K Tb R) := by
  refine ⟨f, fd, F.ok Sc (fun vs H Q E h => ?_) (fun cdv A outer s H vs Q E hr h => ?_), hm, F.kp, hb⟩
  · obtain ⟨F, as, d, _, _, hd, r, _⟩ := h
    exact hd.len.trans (hlen as d r)
  · obtain ⟨F1, as, d, sb, ht, hd, r, q⟩ := h
    obtain ⟨t, h1, h2⟩ := body cdv A outer s H E hr
    exact ⟨t, h1, h2 as d F1 H Q r q _ F1 H (holds_startK sb ht hd)⟩
end
end DW

/-! the operators with the written part named (for comprehensions) -/
namespace DW
open PySem PySem.Spec PyProof.Rows L2
theorem uAddK {X : Cx} (K : PySem.W.Frag) (h : X.K = K := by rfl) : OpR X (binaryOp .Add) (rAddU K) := h ▸ uAdd
theorem uInK {X : Cx} (K : PySem.W.Frag) (h : X.K = K := by rfl) : OpR X (compareOp .In) (rInU K) := h ▸ uIn
theorem uNiK {X : Cx} (K : PySem.W.Frag) (h : X.K = K := by rfl) : OpR X (compareOp .NotIn) (rNiU K) := h ▸ uNi
theorem uEqK {X : Cx} (K : PySem.W.Frag) (hu : X.A.units + 64 < cLine) (h : X.K = K := by rfl) : OpR X (compareOp .Eq) (rEqU K) := h ▸ uEq hu
theorem uNeK {X : Cx} (K : PySem.W.Frag) (hu : X.A.units + 64 < cLine) (h : X.K = K := by rfl) : OpR X (compareOp .NotEq) (rNeU K) := h ▸ uNe hu
theorem ix_seqK {X : Cx} (K : PySem.W.Frag) (h : X.K = K := by rfl) : IxR X (rIx K) := h ▸ ix_seq
theorem uLenK {X : Cx} (K : PySem.W.Frag) (h : X.K = K := by rfl) : CallR X (.builtin "len") (rLenU K) := h ▸ uLen
theorem uListK {X : Cx} (K : PySem.W.Frag) (hc : X.calm = true) (h : X.K = K := by rfl) : CallR X (.type "list") (rListW K) := h ▸ uListW hc
theorem uTupK {X : Cx} (K : PySem.W.Frag) (h : X.K = K := by rfl) : CallR X (.type "tuple") (rTupU K) := h ▸ uTup
theorem uSortK {X : Cx} (K : PySem.W.Frag) (hc : X.calm = true) (h : X.K = K := by rfl) : CallR X (.builtin "sorted") (rSortU K) := h ▸ uSort hc
theorem call_isiK {X : Cx} (K : PySem.W.Frag) (h : X.K = K := by rfl) : CallR X (.builtin "isinstance") (rIsi K) := h ▸ call_isi
theorem uSlK {X : Cx} (K : PySem.W.Frag) (h : X.K = K := by rfl) : SlR X (rSlU K) := h ▸ uSl
def tTru (K : PySem.W.Frag) (te : TE) : TT := fun σ H Q => te σ H fun x H' => ∃ k, TruV K x H' k ∧ Q k H'
theorem pt_truthK {X : Cx} {a : Expr} {ta : TE} (K : PySem.W.Frag) (ha : PE X a ta) (hw : ∀ whole : Sem Value, PySem.isTrue a X.env whole = do let v ← whole; standAt a.pos; holding [v] (truthy v)) (h : X.K = K := by rfl) : PT X a (tTru K ta) := h ▸ pt_truth ha hw
theorem t_tru {g : Gd} {G : List Sl} {te : TE} {d : PyData} {b : Bool} (h : B g te G d) (e : truD d = some b) : T g (tTru g.K te) G b := t_truth h e
theorem pg_tupK {X : Cx} {pos : Pos} {es : List Expr} {k n : Nat} {t : TGs} (K : PySem.W.Frag) (hc : X.calm = true) (ht : PGs X es t) (h1 : (assignEach es X.env).length = n := by rfl) (h2 : List.findIdx? (fun x => x.fst) (assignEach es X.env) = none := by rfl) (h : X.K = K := by rfl) : PG X (.Tuple es k pos) (gTup K n t) := h ▸ pg_tup hc ht h1 h2
end DW
namespace DW
open PySem PySem.Spec PyProof.Rows L2
section
variable {g : Gd} {G : List Sl} {te : TE} {ds : List PyData}
theorem e_tupE (h : E g te G (.list ds)) : E g (tCB (rTupU g.K) (tCons te tNil)) G (.tuple ds) := fun σ F H hh Q q => h σ F H hh _ fun v F1 H1 s1 d1 => by
  obtain ⟨a, vs, rfl, h1, h2⟩ := dp_sq d1
  exact ⟨a, vs, rfl, .inl ⟨s1.i.ex.l h1, fun l hl => by
    have st := Stp.new (o := .tup vs) s1.i hl fun _ z => by cases z
    exact q (.ref l) _ _ (s1.trans st) (.tup (.inl (.inl upd_same)) (st.f.dps ds vs h2))⟩⟩
end
section
variable {P : Program} {w : World} {K : PySem.W.Frag} {mg : Str → Option Value} {base : Heap} {x qual : Str} {st : Stmt} {f : Addr} {fd : FuncData} {Nn ps : List Str} {k : Nat} {Tb : List Addr}
/-- the law itself -/
theorem fn_D (F : Fun K x qual st f fd) (Sc : FnScope Nn ps (defScope st)) {R : List PyData → PyData → Prop} (hlen : ∀ ds d, R ds d → ds.length = ps.length)
    (body : ∀ (cdv : Value) (A : Around) (outer : List Env) (s : Shared) (H : Hp) (E : XK), Room k (A.deeper (envOfC qual (defScope st) s.heap.objs.size f cdv)) →
      ∃ t, PSs (cxOf CX0 P w K mg base Nn qual (defScope st) f cdv A outer s H E).nox (defBody st) t ∧ ∀ (ds : List PyData) (d : PyData) (F0 H0 : Hp) (Q : VK), R ds d → Rt ⟨K, Tb, F0, H0, F0⟩ Q d → S ⟨K, Tb, F0, H0, F0⟩ t { nx := fun _ H' => Q .non H', rt := Q } (startG Nn.length ds)) :
    FnOk P w K mg base CX0 (k + 1) f fd ps (spD K Tb R) := by
  refine F.ok Sc (fun vs H Q E h => ?_) (fun cdv A outer s H vs Q E hr h => ?_)
  · obtain ⟨F, ds, d, _, _, hd, r, _⟩ := h
    exact (dps_len hd).trans (hlen ds d r)
  · obtain ⟨F1, ds, d, sb, ht, hd, r, q⟩ := h
    obtain ⟨t, h1, h2⟩ := body cdv A outer s H E hr
    exact ⟨t, h1, h2 ds d F1 H Q r q _ F1 H (holds_start sb ht hd)⟩
end
theorem dps_ints {K : PySem.W.Frag} {F : Hp} : ∀ (xs : List Int), DpAll K F (xs.map V.int) (xs.map PyData.int)
  | [] => .nil
  | x :: xs => .cons (.int x) (dps_ints xs)
/-- the script as data -/
theorem dp_script {K : PySem.W.Frag} {H : Hp} {a : Addr} {xs : List Int} (h : SqL K H a (xs.map V.int)) : DpAll K (cut H) [.ref a] [.list (xs.map .int)] := .cons (.lst ((ex_cut H).l h) (dps_ints xs)) .nil
end DW

namespace K1
open PySem PySem.Spec PyProof.Rows L2 DW
/- the words of the walk: "side" an arithmetic side, "r" an operator's data, "c" a call's, "e" anything that is evaluated -/
local macro_rules | `(tactic| walk_at "side") => `(tactic| first | assumption | decide | exact Nat.le_of_ble_eq_true rfl | omega | rfl | skip)
local macro_rules | `(tactic| walk_at "r") => `(tactic| first
  | exact add_i | exact sub_i | (apply mod_i; walk_at "side") | (apply div_i <;> walk_at "side") | (apply mul_i; first | (left; constructor <;> omega) | (right; constructor <;> omega) | skip) | (apply pow_i; first | (refine ⟨?_, ?_, ?_⟩ <;> decide) | skip)
  | exact eq_i | exact ne_i | exact eq_s | exact ne_s
  | exact lt_i | exact le_i | exact gt_i | exact ge_i | exact lt_s | (apply add_s; walk_at "side") | (apply mul_s <;> walk_at "side")
  | (apply in_l <;> walk_at "side") | (apply in_t <;> walk_at "side") | (apply ni_l <;> walk_at "side") | (apply ni_t <;> walk_at "side") | exact in_sg | exact ni_sg
  | (apply eqd <;> walk_at "side") | (apply ned <;> walk_at "side")
  | (apply ix_l; walk_at "side") | (apply ix_t; walk_at "side") | (apply ix_s <;> walk_at "side"))
local macro_rules | `(tactic| walk_at "c") => `(tactic| first | exact len_l | exact len_t | (apply len_s; walk_at "side") | exact int_i)
local macro_rules | `(tactic| walk_at "e") => `(tactic| first
  | exact e_var rfl | exact e_int | exact e_str | exact e_bl | exact e_non | exact b_ow rfl | exact a_nil | exact ab_nil | exact ax_nil | exact o_none
  | ((with_reducible apply a_cons); walk_at "e"; walk_at "e") | ((with_reducible apply ab_cons); walk_at "e"; walk_at "e")
  | ((with_reducible apply ax_d); walk_at "e"; walk_at "e") | ((with_reducible apply ax_k); rfl; walk_at "e")
  | ((with_reducible apply e_ixo); rfl; walk_at "e"; walk_at "side")
  | ((with_reducible apply e_op); walk_at "e"; walk_at "e"; walk_at "r")
  | ((with_reducible apply b_op); walk_at "e"; walk_at "e"; walk_at "r"; rfl)
  | ((with_reducible apply b_cb); walk_at "e"; walk_at "c"; rfl)
  | ((with_reducible apply e_neg); walk_at "e")
  | ((with_reducible apply t_test); walk_at "e") | ((with_reducible apply t_not); walk_at "e")
  | ((with_reducible apply e_tup); walk_at "e"; walk_at "side") | ((with_reducible apply el_lst); walk_at "e"; walk_at "side")
  | ((with_reducible apply o_some); walk_at "e")
  | ((with_reducible apply b_of); walk_at "e"))

/-! ### the draws of a cell -/
def dg (rest : Int) : Nat → List Int × Int
  | 0 => ([], rest)
  | n + 1 => if 0 < (dg rest n).2 then ((dg rest n).1 ++ [(dg rest n).2 % 1000], (dg rest n).2 / 1000) else dg rest n
def dgs (c : Int) (m : Nat) : List Int := if 1000000000000000000 ≤ c then (dg c m).1 else []
def st0 (c : Int) : Int := (c * 48271 + 11) % 2147483647
def stN (c : Int) : Nat → Int
  | 0 => st0 c
  | n + 1 => (stN c n * 48271 + (n : Int) * 69621 + 7) % 2147483647
def mx (c : Int) (m : Nat) : Nat → List Int
  | 0 => dgs c m
  | n + 1 => if ((mx c m n).length : Int) < m then mx c m n ++ [(stN c (n + 1) * 69621 + 5) % 2147483629 % 1000] else mx c m n
def draws (c : Int) (m : Nat) : List Int := mx c m m
theorem dg_len (c : Int) : ∀ n, (dg c n).1.length ≤ n
  | 0 => Nat.le_refl _
  | n + 1 => by
    have := dg_len c n
    unfold dg
    split
    · rw [List.length_append]; exact Nat.succ_le_succ this
    · omega
theorem dgs_len (c : Int) (m : Nat) : (dgs c m).length ≤ m := by
  unfold dgs
  split
  · exact dg_len c m
  · exact Nat.zero_le _
theorem mx_len (c : Int) (m : Nat) : ∀ n, (mx c m n).length ≤ m ∧ min m n ≤ (mx c m n).length
  | 0 => ⟨dgs_len c m, by omega⟩
  | n + 1 => by
    have := mx_len c m n
    unfold mx
    split
    · rw [List.length_append]; show _ + 1 ≤ m ∧ _ ≤ _ + 1; omega
    · omega
theorem draws_len (c : Int) (m : Nat) : (draws c m).length = m := by
  have := mx_len c m m
  unfold draws
  omega
theorem m1000 (z : Int) : 0 ≤ z % 1000 ∧ z % 1000 < 1000 := ⟨Int.emod_nonneg _ (by decide), Int.emod_lt_of_pos _ (by decide)⟩
theorem dg_mem (c : Int) : ∀ n, ∀ z ∈ (dg c n).1, 0 ≤ z ∧ z < 1000
  | 0 => fun z h => by cases h
  | n + 1 => fun z h => by
    unfold dg at h
    split at h
    · rcases List.mem_append.mp h with h | h
      · exact dg_mem c n z h
      · rw [List.mem_singleton.mp h]; exact m1000 _
    · exact dg_mem c n z h
theorem mx_mem (c : Int) (m : Nat) : ∀ n, ∀ z ∈ mx c m n, 0 ≤ z ∧ z < 1000
  | 0 => fun z h => by
    unfold mx dgs at h
    split at h
    · exact dg_mem c m z h
    · cases h
  | n + 1 => fun z h => by
    unfold mx at h
    split at h
    · rcases List.mem_append.mp h with h | h
      · exact mx_mem c m n z h
      · rw [List.mem_singleton.mp h]; exact m1000 _
    · exact mx_mem c m n z h
theorem draws_mem {c : Int} {m : Nat} {z : Int} (h : z ∈ draws c m) : 0 ≤ z ∧ z < 1000 := mx_mem c m m z h
theorem stN_bd (c : Int) : ∀ n, 0 ≤ stN c n ∧ stN c n < 2147483647
  | 0 => ⟨Int.emod_nonneg _ (by decide), Int.emod_lt_of_pos _ (by decide)⟩
  | n + 1 => ⟨Int.emod_nonneg _ (by decide), Int.emod_lt_of_pos _ (by decide)⟩

/-! ### data -/
abbrev iL (xs : List Int) : PyData := .list (xs.map .int)
abbrev sL (ns : List Str) : PyData := .list (ns.map .str)
abbrev prD (p : Str × Str) : PyData := .tuple [.str p.1, .str p.2]
abbrev lbD (L : List (Str × Str)) : PyData := .tuple (L.map prD)
def itI (xs : List Int) (k : Int) : Int := xs.getD k.toNat 0
def itS (ns : List Str) (k : Int) : Str := ns.getD k.toNat Str.empty
theorem at_nat {α : Type} {xs : List α} {k : Int} (h0 : 0 ≤ k) (h1 : k.toNat < xs.length) : atI xs k = xs[k.toNat]? := by
  obtain ⟨n, rfl⟩ := Int.eq_ofNat_of_zero_le h0
  have h2 : n < xs.length := h1
  rw [atI_nat (List.getElem?_eq_getElem h2)]
  exact (List.getElem?_eq_getElem h2).symm
theorem at_int {xs : List Int} {k : Int} (h0 : 0 ≤ k) (h1 : k < xs.length) : atI (xs.map PyData.int) k = some (.int (itI xs k)) := by
  rw [at_nat h0 (by rw [List.length_map]; omega), List.getElem?_map]
  unfold itI
  rw [List.getD_eq_getElem?_getD, List.getElem?_eq_getElem (by omega)]; rfl
theorem at_str {xs : List Str} {k : Int} (h0 : 0 ≤ k) (h1 : k < xs.length) : atI (xs.map PyData.str) k = some (.str (itS xs k)) := by
  rw [at_nat h0 (by rw [List.length_map]; omega), List.getElem?_map]
  unfold itS
  rw [List.getD_eq_getElem?_getD, List.getElem?_eq_getElem (by omega)]; rfl
theorem itI_mem {xs : List Int} {k : Int} (h0 : 0 ≤ k) (h1 : k < xs.length) : itI xs k ∈ xs := by
  unfold itI
  rw [List.getD_eq_getElem?_getD, List.getElem?_eq_getElem (by omega)]; exact List.getElem_mem _
theorem itS_mem {xs : List Str} {k : Int} (h0 : 0 ≤ k) (h1 : k < xs.length) : itS xs k ∈ xs := by
  unfold itS
  rw [List.getD_eq_getElem?_getD, List.getElem?_eq_getElem (by omega)]; exact List.getElem_mem _
/-- a sign of a text -/
def sg (s : Str) (k : Int) : Str := ⟨#[s.cps.toList.getD k.toNat 0]⟩
theorem at_sg {s : Str} {k : Int} (h0 : 0 ≤ k) (h1 : k < s.cps.toList.length) : atI s.cps.toList k = some (s.cps.toList.getD k.toNat 0) := by
  rw [at_nat h0 (by omega), List.getD_eq_getElem?_getD, List.getElem?_eq_getElem (by omega)]; rfl
theorem sg_len (s : Str) (k : Int) : (sg s k).length = 1 := rfl
theorem add_len (a b : Str) : (a ++ b).length = a.length + b.length := by
  show (a.cps ++ b.cps).size = _
  rw [Array.size_append]; rfl
theorem md (a b : Int) (h : 0 < b) : 0 ≤ a % b ∧ a % b < b := ⟨Int.emod_nonneg _ (by omega), Int.emod_lt_of_pos _ h⟩
/-! names, worths -/
def LT1 : Str := "abcdefghijklmnopqrstuvwxyz0123456789_"
def LT2 : Str := "0123456789_abcdefghijklmnopqrstuvwxyz"
def nmF (a b : Int) : Str :=
  if b % 5 = 0 then sg LT1 (a % 26) else if b % 5 = 1 then sg LT1 (a % 26) ++ sg LT1 (b / 5 % 37)
  else if b % 25 = 24 then sg LT1 (a % 26) ++ sg LT1 (b / 5 % 37) ++ mulS "_" 17 ++ sg LT1 (a / 26 % 37)
  else sg LT1 (a % 26) ++ sg LT1 (b / 5 % 37) ++ sg LT1 (a / 26 % 37)
def wrF (a b : Int) : Str :=
  if b % 4 = 0 then sg LT2 (a % 37) else if b % 32 = 31 then mulS (sg LT2 (a % 37)) 19 ++ sg LT2 (b / 4 % 37)
  else sg LT2 (a % 37) ++ sg LT2 (b / 4 % 37)
theorem mul19 (c : Nat) : (mulS ⟨#[c]⟩ 19).length = 19 := by
  unfold mulS
  rw [if_neg (by decide), if_neg (by intro h; exact absurd h (by show ¬ ((19:Int) == 1 || (#[c] : Array Nat).size == 0) = true; simp))]
  show ((List.replicate 19 #[c]).foldl (· ++ ·) #[]).size = 19
  simp [List.replicate]
theorem mul17 : (mulS "_" 17).length = 17 := by
  have e : ("_" : Str) = ⟨#[95]⟩ := by decide +kernel
  rw [e]
  unfold mulS
  rw [if_neg (by decide), if_neg (by intro h; exact absurd h (by show ¬ ((17:Int) == 1 || (#[95] : Array Nat).size == 0) = true; simp))]
  show ((List.replicate 17 #[95]).foldl (· ++ ·) #[]).size = 17
  simp [List.replicate]
theorem wr_len (a b : Int) : 1 ≤ (wrF a b).length := by
  unfold wrF
  split
  · rw [sg_len]; decide
  · split
    · rw [add_len, sg_len]; omega
    · rw [add_len, sg_len]; omega

def topS (i : Nat) : Stmt := PySem.Challenge.pw_watchfloor_k01_base_labels_change.main.body.getD i (.Pass ⟨0, 0, 0, 0⟩)
abbrev s_value_of : Stmt := topS 1
abbrev N_value_of : List Str := ["labels", "name", "other", "value"]
theorem sc_value_of : FnScope N_value_of ["labels", "name"] (defScope s_value_of) := ⟨rfl, rfl, rfl, by decide +kernel, rfl, by decide +kernel, by decide +kernel⟩
abbrev s_with_label : Stmt := topS 2
abbrev N_with_label : List Str := ["labels", "name", "value", "others"]
theorem sc_with_label : FnScope N_with_label ["labels", "name", "value"] (defScope s_with_label) := ⟨rfl, rfl, rfl, by decide +kernel, rfl, by decide +kernel, by decide +kernel⟩
abbrev s_without : Stmt := topS 3
abbrev N_without : List Str := ["labels", "names", "name", "value"]
theorem sc_without : FnScope N_without ["labels", "names"] (defScope s_without) := ⟨rfl, rfl, rfl, by decide +kernel, rfl, by decide +kernel, by decide +kernel⟩
abbrev s_only : Stmt := topS 4
abbrev N_only : List Str := ["labels", "names", "name", "value"]
theorem sc_only : FnScope N_only ["labels", "names"] (defScope s_only) := ⟨rfl, rfl, rfl, by decide +kernel, rfl, by decide +kernel, by decide +kernel⟩
abbrev s_l_law_cell : Stmt := topS 6
abbrev N_l_law_cell : List Str := ["script", "k"]
theorem sc_l_law_cell : FnScope N_l_law_cell ["script", "k"] (defScope s_l_law_cell) := ⟨rfl, rfl, rfl, by decide +kernel, rfl, by decide +kernel, by decide +kernel⟩
abbrev s_l_law_draws : Stmt := topS 7
abbrev N_l_law_draws : List Str := ["cell", "many", "rows", "rest", "k", "state"]
theorem sc_l_law_draws : FnScope N_l_law_draws ["cell", "many"] (defScope s_l_law_draws) := ⟨rfl, rfl, rfl, by decide +kernel, rfl, by decide +kernel, by decide +kernel⟩
abbrev s_l_law_name : Stmt := topS 8
abbrev N_l_law_name : List Str := ["first", "second", "letters", "text"]
theorem sc_l_law_name : FnScope N_l_law_name ["first", "second"] (defScope s_l_law_name) := ⟨rfl, rfl, rfl, by decide +kernel, rfl, by decide +kernel, by decide +kernel⟩
abbrev s_l_law_worth : Stmt := topS 9
abbrev N_l_law_worth : List Str := ["first", "second", "letters", "text"]
theorem sc_l_law_worth : FnScope N_l_law_worth ["first", "second"] (defScope s_l_law_worth) := ⟨rfl, rfl, rfl, by decide +kernel, rfl, by decide +kernel, by decide +kernel⟩
abbrev s_l_law_names : Stmt := topS 10
abbrev N_l_law_names : List Str := ["cell", "many", "draws", "k"]
theorem sc_l_law_names : FnScope N_l_law_names ["cell", "many"] (defScope s_l_law_names) := ⟨rfl, rfl, rfl, by decide +kernel, rfl, by decide +kernel, by decide +kernel⟩
abbrev s_l_law_worths : Stmt := topS 11
abbrev N_l_law_worths : List Str := ["cell", "many", "draws", "k"]
theorem sc_l_law_worths : FnScope N_l_law_worths ["cell", "many"] (defScope s_l_law_worths) := ⟨rfl, rfl, rfl, by decide +kernel, rfl, by decide +kernel, by decide +kernel⟩
abbrev s_l_law_labels : Stmt := topS 12
abbrev N_l_law_labels : List Str := ["draws", "names", "worths", "pairs", "used", "k", "name"]
theorem sc_l_law_labels : FnScope N_l_law_labels ["draws", "names", "worths"] (defScope s_l_law_labels) := ⟨rfl, rfl, rfl, by decide +kernel, rfl, by decide +kernel, by decide +kernel⟩
abbrev s_l_law_agrees : Stmt := topS 13
abbrev N_l_law_agrees : List Str := ["labels", "names", "known", "k", "due", "name"]
theorem sc_l_law_agrees : FnScope N_l_law_agrees ["labels", "names", "known"] (defScope s_l_law_agrees) := ⟨rfl, rfl, rfl, by decide +kernel, rfl, by decide +kernel, by decide +kernel⟩
abbrev s_l_law_some : Stmt := topS 14
abbrev N_l_law_some : List Str := ["draws", "names", "draw"]
theorem sc_l_law_some : FnScope N_l_law_some ["draws", "names"] (defScope s_l_law_some) := ⟨rfl, rfl, rfl, by decide +kernel, rfl, by decide +kernel, by decide +kernel⟩
abbrev s_law : Stmt := topS 15
abbrev N_law : List Str := ["script", "names", "worths", "labels", "known", "name", "worth", "cell", "draws", "before", "some"]
theorem sc_law : FnScope N_law ["script"] (defScope s_law) := ⟨rfl, rfl, rfl, by decide +kernel, rfl, by decide +kernel, by decide +kernel⟩

section
variable {P : Program} {w : World} {K : PySem.W.Frag} {mg : Str → Option Value} {base : Heap} {f : Addr} {fd : FuncData} {Tb : List Addr} {k : Nat}
def R_draws : List PyData → PyData → Prop := fun ds d => ∃ (c : Int) (m : Nat), ds = [.int c, .int m] ∧ m ≤ 1000 ∧ d = .list ((draws c m).map .int)
theorem ok_draws (Fn : Fun K "_law_draws" "_law_draws" s_l_law_draws f fd) (hm : mg "_law_draws" = some (.ref f)) (hb : Binds K fd ["cell", "many"] []) (Z : Zb mg) :
    Df P w K mg base 1 "_law_draws" ["cell", "many"] (spD K Tb R_draws) := by
  refine df_D Fn sc_l_law_draws hm hb (fun ds d h => by obtain ⟨c, m, rfl, _⟩ := h; rfl) fun cdv A outer s H Ek hr => ⟨_, (pss_cons (ps_set (i := 2) sc_l_law_draws.nd rfl (by first | exact .inl rfl | exact .inr rfl) (pe_lst pa_nil))
      (pss_cons (ps_set (i := 3) sc_l_law_draws.nd rfl (by first | exact .inl rfl | exact .inr rfl) (pe_callTy uInt (by rfl) Z.int (by decide +kernel) (pa_cons (pv 0) pa_nil)))
      (Evl.pss_cut (ps_if (pt_cmpR op_ge (pv 3) (pe_op op_pow pe_int pe_int) (nomark _)) (pss_one (ps_for PassesOwn.never rfl (pi_range1 (by rfl) Z.range (pa_cons (pv 1) pa_nil)) (pg_name (i := 4) sc_l_law_draws.nd rfl (by first | exact .inl rfl | exact .inr rfl)) (pss_one (ps_if (pt_cmpR op_gt (pv 3) pe_int (nomark _)) (pss_cons (ps_expr (pe_bm PySem.F.plainAttrs_list PySem.F.slot_list_append PySem.F.type_list_append mt_append (pv 2) (pa_cons (pe_op op_mod (pe_callTy uInt (by rfl) Z.int (by decide +kernel) (pa_cons (pv 3) pa_nil)) pe_int) pa_nil)))
      (pss_one (ps_set (i := 3) sc_l_law_draws.nd rfl (by first | exact .inl rfl | exact .inr rfl) (pe_op op_fdiv (pv 3) pe_int)))) pss_nil)))) pss_nil)
      (pss_cons (ps_set (i := 5) sc_l_law_draws.nd rfl (by first | exact .inl rfl | exact .inr rfl) (pe_op op_mod (pe_callTy uInt (by rfl) Z.int (by decide +kernel) (pa_cons (pe_op (uAddK K) (pe_op uMul (pe_callTy uInt (by rfl) Z.int (by decide +kernel) (pa_cons (pv 0) pa_nil)) pe_int) pe_int) pa_nil)) pe_int))
      (pss_cons (ps_for PassesOwn.never rfl (pi_range1 (by rfl) Z.range (pa_cons (pv 1) pa_nil)) (pg_name (i := 4) sc_l_law_draws.nd rfl (by first | exact .inl rfl | exact .inr rfl)) (pss_cons (ps_set (i := 5) sc_l_law_draws.nd rfl (by first | exact .inl rfl | exact .inr rfl) (pe_op op_mod (pe_callTy uInt (by rfl) Z.int (by decide +kernel) (pa_cons (pe_op (uAddK K) (pe_op (uAddK K) (pe_op uMul (pv 5) pe_int) (pe_op uMul (pv 4) pe_int)) pe_int) pa_nil)) pe_int))
      (pss_one (ps_if (pt_cmpR uLt (pe_callB (uLenK K) (by rfl) Z.len (by decide +kernel) (pa_cons (pv 2) pa_nil)) (pv 1) (nomark _)) (pss_one (ps_expr (pe_bm PySem.F.plainAttrs_list PySem.F.slot_list_append PySem.F.type_list_append mt_append (pv 2) (pa_cons (pe_op op_mod (pe_callTy uInt (by rfl) Z.int (by decide +kernel) (pa_cons (pe_op op_mod (pe_callTy uInt (by rfl) Z.int (by decide +kernel) (pa_cons (pe_op (uAddK K) (pe_op uMul (pv 5) pe_int) pe_int) pa_nil)) pe_int) pa_nil)) pe_int) pa_nil)))) pss_nil))))
      (pss_one (ps_ret (pv 2)))))))), fun ds d F0 H0 Q r rt => ?_⟩
  obtain ⟨c, m, rfl, hm, rfl⟩ := r
  have e18 : ((10 : Int) ^ (18 : Int).toNat) = 1000000000000000000 := by decide
  refine q_asgL (el_lst a_nil (by decide)) ?_
  refine q_asg (d := .int c) ?_ ?_
  · walk_at "e"
  -- the digits
  refine s_cutA (fun r0 : Int => [.fz (.int c), .fz (.int m), .ow ((dgs c m).map .int), .fz (.int r0), .un, .un]) (fun _ => True) ?_ fun r0 _ => ?_
  · refine s_if (b := decide (1000000000000000000 ≤ c)) ?_ (fun hb => ?_) fun hb => ?_
    · walk_at "e"
    · let Iv : Nat → List Sl := fun i => [.fz (.int c), .fz (.int m), .ow ((dg c i).1.map .int), .fz (.int (dg c i).2), .un, .un]
      refine s_for1 Iv (it_rng1 (n := (m : Int)) ?_ (by omega) (by omega)) (Wk.refl _) (fun F1 i d hd => ?_) ?_
      · walk_at "e"
      · obtain ⟨hi, rfl⟩ := rngD_get hd
        refine ⟨_, _, g_name, ?_⟩
        refine s_if (b := decide (0 < (dg c i).2)) ?_ (fun h => ?_) fun h => ?_
        · walk_at "e"
        · have e : dg c (i + 1) = ((dg c i).1 ++ [(dg c i).2 % 1000], (dg c i).2 / 1000) := by
            show (if _ then _ else _) = _
            rw [if_pos (of_decide_eq_true h)]
          refine q_app rfl (d := .int ((dg c i).2 % 1000)) ?_ ?_ ?_
          · walk_at "e"
          · rw [List.length_map]; have := dg_len c i; omega
          · refine s_asg (d := .int ((dg c i).2 / 1000)) ?_ ?_
            · walk_at "e"
            · refine n_end1 (.keep rfl (.keep rfl (.keep ?_ (.keep ?_ (.drop (.keep rfl .nil))))))
              · show Sl.ow ((dg c (i + 1)).1.map .int) = _
                rw [e, List.map_append]; rfl
              · show Sl.fz (.int (dg c (i + 1)).2) = _
                rw [e]
        · have e : dg c (i + 1) = dg c i := by
            show (if _ then _ else _) = _
            rw [if_neg (of_decide_eq_false h)]
          refine s_next (n_end1 (.keep rfl (.keep rfl (.keep ?_ (.keep ?_ (.drop (.keep rfl .nil)))))))
          · show Sl.ow ((dg c (i + 1)).1.map .int) = _
            rw [e]
          · show Sl.fz (.int (dg c (i + 1)).2) = _
            rw [e]
      · have e : (rngD 0 ((m : Int)).toNat).length = m := by rw [rngD_len]; omega
        rw [e]
        have e2 : (dg c m).1 = dgs c m := by unfold dgs; rw [if_pos (of_decide_eq_true hb)]
        refine n_end (dg c m).2 trivial (.keep rfl (.keep rfl (.keep ?_ (.keep rfl (.keep rfl (.keep rfl .nil))))))
        rw [e2]
    · have e2 : dgs c m = [] := by unfold dgs; rw [if_neg (of_decide_eq_false hb)]
      refine s_next (n_end c trivial (.keep rfl (.keep rfl (.keep ?_ (.keep rfl (.keep rfl (.keep rfl .nil)))))))
      rw [e2]; rfl
  · refine q_asg (d := .int (st0 c)) ?_ ?_
    · walk_at "e"
    · let Iv : Nat → List Sl := fun i => [.fz (.int c), .fz (.int m), .ow ((mx c m i).map .int), .fz (.int r0), .un, .fz (.int (stN c i))]
      refine q_for1 Iv (it_rng1 (n := (m : Int)) ?_ (by omega) (by omega)) (Wk.refl _) (fun F1 i d hd => ?_) ?_
      · walk_at "e"
      · obtain ⟨hi, rfl⟩ := rngD_get hd
        have hb := stN_bd c i
        have hb2 := stN_bd c (i + 1)
        refine ⟨_, _, g_name, ?_⟩
        refine q_asg (d := .int (stN c (i + 1))) ?_ ?_
        · have e : stN c (i + 1) = (stN c i * 48271 + (0 + (i : Int)) * 69621 + 7) % 2147483647 := by rw [Int.zero_add]; rfl
          rw [e]
          walk_at "e"
        · refine s_if (b := decide (((mx c m i).length : Int) < m)) ?_ (fun h => ?_) fun h => ?_
          · have e : (((mx c m i).map PyData.int).length : Int) = (mx c m i).length := by rw [List.length_map]
            rw [← e]
            walk_at "e"
          · refine s_app rfl (d := .int ((stN c (i + 1) * 69621 + 5) % 2147483629 % 1000)) ?_ ?_ ?_
            · walk_at "e"
            · rw [List.length_map]; have := mx_len c m i; omega
            · refine n_end1 ?_
              have e : mx c m (i + 1) = mx c m i ++ [(stN c (i + 1) * 69621 + 5) % 2147483629 % 1000] := by
                show (if _ then _ else _) = _
                rw [if_pos (of_decide_eq_true h)]
              refine .keep rfl (.keep rfl (.keep ?_ (.keep rfl (.drop (.keep rfl .nil)))))
              show Sl.ow ((mx c m (i + 1)).map .int) = _
              rw [e, List.map_append]; rfl
          · refine s_next (n_end1 ?_)
            have e : mx c m (i + 1) = mx c m i := by
              show (if _ then _ else _) = _
              rw [if_neg (of_decide_eq_false h)]
            refine .keep rfl (.keep rfl (.keep ?_ (.keep rfl (.drop (.keep rfl .nil)))))
            show Sl.ow ((mx c m (i + 1)).map .int) = _
            rw [e]
      · have e : (rngD 0 ((m : Int)).toNat).length = m := by rw [rngD_len]; omega
        rw [e]
        exact s_retO rfl (RtL.of (D := { nx := fun x H' => Q V.non H', rt := Q }) rt)

/-! ### a cell -/
def cellF (s : List Int) (k : Int) : Int := if k < s.length then itI s k else 0
def R_cell : List PyData → PyData → Prop := fun ds d => ∃ (s : List Int) (k : Int), ds = [iL s, .int k] ∧ 0 ≤ k ∧ d = .int (cellF s k)
theorem ok_cell (Fn : Fun K "_law_cell" "_law_cell" s_l_law_cell f fd) (hm : mg "_law_cell" = some (.ref f)) (hb : Binds K fd ["script", "k"] []) (Z : Zb mg) :
    Df P w K mg base 1 "_law_cell" ["script", "k"] (spD K Tb R_cell) := by
  refine df_D Fn sc_l_law_cell hm hb (fun ds d h => by obtain ⟨c, m, rfl, _⟩ := h; rfl) fun cdv A outer s H Ek hr => ⟨_, (pss_cons (ps_if (pt_cmpR uLt (pv 1) (pe_callB (uLenK K) (by rfl) Z.len (by decide +kernel) (pa_cons (pv 0) pa_nil)) (nomark _)) (pss_one (ps_ret (pe_callTy uInt (by rfl) Z.int (by decide +kernel) (pa_cons (pe_ix (ix_seqK K) (pv 0) (pv 1) (fun _ _ => rfl)) pa_nil)))) pss_nil)
      (pss_one (ps_ret pe_int))),  fun ds d F0 H0 Q r rt => ?_⟩
  obtain ⟨xs, k, rfl, h0, rfl⟩ := r
  have e : (((xs.map PyData.int).length : Nat) : Int) = xs.length := by rw [List.length_map]
  refine q_if (b := decide (k < xs.length)) ?_ (fun h => ?_) fun h => ?_
  · rw [← e]; walk_at "e"
  · have h' := of_decide_eq_true h
    refine s_ret (d := .int (itI xs k)) ?_ ?_
    · have := at_int h0 h'
      walk_at "e"
    · rw [cellF, if_pos h'] at rt; exact rt
  · rw [cellF, if_neg (of_decide_eq_false h)] at rt
    refine s_next (n_go (s_ret (d := .int 0) ?_ rt))
    walk_at "e"
end

section
variable {P : Program} {w : World} {K : PySem.W.Frag} {mg : Str → Option Value} {base : Heap} {f : Addr} {fd : FuncData} {Tb : List Addr} {k : Nat}
/-! ### names and worths -/
theorem lt1 : LT1.cps.toList.length = 37 := by decide +kernel
theorem lt2 : LT2.cps.toList.length = 37 := by decide +kernel
theorem lz1 : LT1.length ≤ 100000 := by decide +kernel
theorem lz2 : LT2.length ≤ 100000 := by decide +kernel
theorem a1_26 (a : Int) : atI LT1.cps.toList (a % 26) = some (LT1.cps.toList.getD (a % 26).toNat 0) := at_sg (s := LT1) (md a 26 (by decide)).1 (by have := md a 26 (by decide); have := lt1; omega)
theorem a1_37 (a : Int) : atI LT1.cps.toList (a % 37) = some (LT1.cps.toList.getD (a % 37).toNat 0) := at_sg (s := LT1) (md a 37 (by decide)).1 (by have := md a 37 (by decide); have := lt1; omega)
theorem a2_37 (a : Int) : atI LT2.cps.toList (a % 37) = some (LT2.cps.toList.getD (a % 37).toNat 0) := at_sg (s := LT2) (md a 37 (by decide)).1 (by have := md a 37 (by decide); have := lt2; omega)
theorem e_sg {g : Gd} {G : List Sl} {ta tb : TE} {s : Str} {k : Int} (ha : E g ta G (.str s)) (hb : E g tb G (.int k)) (hl : s.length ≤ 100000) (hk : atI s.cps.toList k = some (s.cps.toList.getD k.toNat 0)) : E g (tOp (rIx g.K) ta tb) G (.str (sg s k)) := e_op ha hb (ix_s hl hk)
def R_name : List PyData → PyData → Prop := fun ds d => ∃ (a b : Int), ds = [.int a, .int b] ∧ d = .str (nmF a b)
theorem ok_name (Fn : Fun K "_law_name" "_law_name" s_l_law_name f fd) (hm : mg "_law_name" = some (.ref f)) (hb : Binds K fd ["first", "second"] []) (Z : Zb mg) :
    Df P w K mg base 1 "_law_name" ["first", "second"] (spD K Tb R_name) := by
  refine df_D Fn sc_l_law_name hm hb (fun ds d h => by obtain ⟨c, m, rfl, _⟩ := h; rfl) fun cdv A outer s H Ek hr => ⟨_, (pss_cons (ps_set (i := 2) sc_l_law_name.nd rfl (by first | exact .inl rfl | exact .inr rfl) pe_str)
      (pss_cons (ps_set (i := 3) sc_l_law_name.nd rfl (by first | exact .inl rfl | exact .inr rfl) (pe_ix (ix_seqK K) (pv 2) (pe_op op_mod (pe_callTy uInt (by rfl) Z.int (by decide +kernel) (pa_cons (pv 0) pa_nil)) pe_int) (fun _ _ => rfl)))
      (pss_cons (ps_if (pt_cmpR (uEqK K hr.units) (pe_op op_mod (pe_callTy uInt (by rfl) Z.int (by decide +kernel) (pa_cons (pv 1) pa_nil)) pe_int) pe_int (nomark _)) (pss_one (ps_ret (pv 3))) pss_nil)
      (pss_cons (ps_set (i := 3) sc_l_law_name.nd rfl (by first | exact .inl rfl | exact .inr rfl) (pe_op (uAddK K) (pv 3) (pe_ix (ix_seqK K) (pv 2) (pe_op op_mod (pe_op op_fdiv (pe_callTy uInt (by rfl) Z.int (by decide +kernel) (pa_cons (pv 1) pa_nil)) pe_int) pe_int) (fun _ _ => rfl))))
      (pss_cons (ps_if (pt_cmpR (uEqK K hr.units) (pe_op op_mod (pe_callTy uInt (by rfl) Z.int (by decide +kernel) (pa_cons (pv 1) pa_nil)) pe_int) pe_int (nomark _)) (pss_one (ps_ret (pv 3))) pss_nil)
      (pss_cons (ps_if (pt_cmpR (uEqK K hr.units) (pe_op op_mod (pe_callTy uInt (by rfl) Z.int (by decide +kernel) (pa_cons (pv 1) pa_nil)) pe_int) pe_int (nomark _)) (pss_one (ps_ret (pe_op (uAddK K) (pe_op (uAddK K) (pv 3) (pe_op uMul pe_str pe_int)) (pe_ix (ix_seqK K) (pv 2) (pe_op op_mod (pe_op op_fdiv (pe_callTy uInt (by rfl) Z.int (by decide +kernel) (pa_cons (pv 0) pa_nil)) pe_int) pe_int) (fun _ _ => rfl))))) pss_nil)
      (pss_one (ps_ret (pe_op (uAddK K) (pv 3) (pe_ix (ix_seqK K) (pv 2) (pe_op op_mod (pe_op op_fdiv (pe_callTy uInt (by rfl) Z.int (by decide +kernel) (pa_cons (pv 0) pa_nil)) pe_int) pe_int) (fun _ _ => rfl))))))))))),  fun ds d F0 H0 Q r rt => ?_⟩
  obtain ⟨a, b, rfl, rfl⟩ := r
  refine q_asg (d := .str LT1) e_str ?_
  refine q_asg (d := .str (sg LT1 (a % 26))) (e_sg (by walk_at "e") (by walk_at "e") lz1 (a1_26 a)) ?_
  refine q_if (b := decide (b % 5 = 0)) ?_ (fun h => ?_) fun h0 => ?_
  · walk_at "e"
  · unfold nmF at rt
    rw [if_pos (of_decide_eq_true h)] at rt
    exact s_ret (by walk_at "e") rt
  refine s_next (n_go (q_asg (d := .str (sg LT1 (a % 26) ++ sg LT1 (b / 5 % 37))) ?_ ?_))
  · exact e_op (by walk_at "e") (e_sg (by walk_at "e") (by walk_at "e") lz1 (a1_37 (b / 5))) (add_s (by rw [sg_len, sg_len]; decide))
  refine q_if (b := decide (b % 5 = 1)) ?_ (fun h => ?_) fun h1 => ?_
  · walk_at "e"
  · unfold nmF at rt
    rw [if_neg (of_decide_eq_false h0), if_pos (of_decide_eq_true h)] at rt
    exact s_ret (by walk_at "e") rt
  refine s_next (n_go (q_if (b := decide (b % 25 = 24)) ?_ (fun h => ?_) fun h2 => ?_))
  · walk_at "e"
  · unfold nmF at rt
    rw [if_neg (of_decide_eq_false h0), if_neg (of_decide_eq_false h1), if_pos (of_decide_eq_true h)] at rt
    refine s_ret (e_op (e_op (by walk_at "e") (e_op e_str e_int (mul_s (by decide) (by decide) (by decide +kernel))) (add_s ?_)) (e_sg (by walk_at "e") (by walk_at "e") lz1 (a1_37 (a / 26))) (add_s ?_)) rt
    · rw [add_len, sg_len, sg_len, mul17]; decide
    · rw [add_len, add_len, sg_len, sg_len, sg_len, mul17]; decide
  · unfold nmF at rt
    rw [if_neg (of_decide_eq_false h0), if_neg (of_decide_eq_false h1), if_neg (of_decide_eq_false h2)] at rt
    refine s_next (n_go (s_ret (e_op (by walk_at "e") (e_sg (by walk_at "e") (by walk_at "e") lz1 (a1_37 (a / 26))) (add_s ?_)) rt))
    rw [add_len, sg_len, sg_len, sg_len]; decide
def R_worth : List PyData → PyData → Prop := fun ds d => ∃ (a b : Int), ds = [.int a, .int b] ∧ d = .str (wrF a b)
theorem ok_worth (Fn : Fun K "_law_worth" "_law_worth" s_l_law_worth f fd) (hm : mg "_law_worth" = some (.ref f)) (hb : Binds K fd ["first", "second"] []) (Z : Zb mg) :
    Df P w K mg base 1 "_law_worth" ["first", "second"] (spD K Tb R_worth) := by
  refine df_D Fn sc_l_law_worth hm hb (fun ds d h => by obtain ⟨c, m, rfl, _⟩ := h; rfl) fun cdv A outer s H Ek hr => ⟨_, (pss_cons (ps_set (i := 2) sc_l_law_worth.nd rfl (by first | exact .inl rfl | exact .inr rfl) pe_str)
      (pss_cons (ps_set (i := 3) sc_l_law_worth.nd rfl (by first | exact .inl rfl | exact .inr rfl) (pe_ix (ix_seqK K) (pv 2) (pe_op op_mod (pe_callTy uInt (by rfl) Z.int (by decide +kernel) (pa_cons (pv 0) pa_nil)) pe_int) (fun _ _ => rfl)))
      (pss_cons (ps_if (pt_cmpR (uEqK K hr.units) (pe_op op_mod (pe_callTy uInt (by rfl) Z.int (by decide +kernel) (pa_cons (pv 1) pa_nil)) pe_int) pe_int (nomark _)) (pss_one (ps_ret (pv 3))) pss_nil)
      (pss_cons (ps_if (pt_cmpR (uEqK K hr.units) (pe_op op_mod (pe_callTy uInt (by rfl) Z.int (by decide +kernel) (pa_cons (pv 1) pa_nil)) pe_int) pe_int (nomark _)) (pss_one (ps_ret (pe_op (uAddK K) (pe_op uMul (pv 3) pe_int) (pe_ix (ix_seqK K) (pv 2) (pe_op op_mod (pe_op op_fdiv (pe_callTy uInt (by rfl) Z.int (by decide +kernel) (pa_cons (pv 1) pa_nil)) pe_int) pe_int) (fun _ _ => rfl))))) pss_nil)
      (pss_one (ps_ret (pe_op (uAddK K) (pv 3) (pe_ix (ix_seqK K) (pv 2) (pe_op op_mod (pe_op op_fdiv (pe_callTy uInt (by rfl) Z.int (by decide +kernel) (pa_cons (pv 1) pa_nil)) pe_int) pe_int) (fun _ _ => rfl))))))))),  fun ds d F0 H0 Q r rt => ?_⟩
  obtain ⟨a, b, rfl, rfl⟩ := r
  refine q_asg (d := .str LT2) e_str ?_
  refine q_asg (d := .str (sg LT2 (a % 37))) (e_sg (by walk_at "e") (by walk_at "e") lz2 (a2_37 a)) ?_
  refine q_if (b := decide (b % 4 = 0)) ?_ (fun h => ?_) fun h0 => ?_
  · walk_at "e"
  · unfold wrF at rt
    rw [if_pos (of_decide_eq_true h)] at rt
    exact s_ret (by walk_at "e") rt
  refine s_next (n_go (q_if (b := decide (b % 32 = 31)) ?_ (fun h => ?_) fun h2 => ?_))
  · walk_at "e"
  · unfold wrF at rt
    rw [if_neg (of_decide_eq_false h0), if_pos (of_decide_eq_true h)] at rt
    refine s_ret (e_op (e_op (by walk_at "e") e_int (mul_s (by decide) (by decide) (by rw [sg_len]; decide))) (e_sg (by walk_at "e") (by walk_at "e") lz2 (a2_37 (b / 4))) (add_s ?_)) rt
    rw [sg_len, show (mulS (sg LT2 (a % 37)) 19).length = 19 from mul19 _]; decide
  · unfold wrF at rt
    rw [if_neg (of_decide_eq_false h0), if_neg (of_decide_eq_false h2)] at rt
    refine s_next (n_go (s_ret (e_op (by walk_at "e") (e_sg (by walk_at "e") (by walk_at "e") lz2 (a2_37 (b / 4))) (add_s ?_)) rt))
    rw [sg_len, sg_len]; decide
end

/-! ### labels -/
def valD : List (Str × Str) → Str → Str
  | [], _ => ""
  | p :: L, n => if p.1 = n then p.2 else valD L n
theorem map_get {α : Type} {f : α → PyData} {l : List α} {i : Nat} {d : PyData} (h : (l.map f)[i]? = some d) : ∃ x, l[i]? = some x ∧ d = f x := by
  rw [List.getElem?_map] at h
  cases e : l[i]? with
  | none => rw [e] at h; cases h
  | some x => rw [e] at h; exact ⟨x, rfl, (Option.some.inj h).symm⟩
theorem drop_get {α : Type} {l : List α} {i : Nat} {x : α} (h : l[i]? = some x) : l.drop i = x :: l.drop (i + 1) := by
  obtain ⟨hi, e⟩ := List.getElem?_eq_some_iff.mp h
  rw [← e]; exact List.drop_eq_getElem_cons hi
theorem inD_str (a : Str) : ∀ (ns : List Str), inD (.str a) (ns.map .str) = decide (a ∈ ns)
  | [] => rfl
  | n :: ns => by
    have ih := inD_str a ns
    unfold inD inV at ih ⊢
    rw [List.map_cons, List.map_cons, List.any_cons, ih]
    show ((n == a) || _) = _
    rw [Bool.eq_iff_iff, Bool.or_eq_true, beq_iff_eq, decide_eq_true_iff, decide_eq_true_iff, List.mem_cons]
    exact or_congr eq_comm Iff.rfl
theorem scal_strs : ∀ (ns : List Str), (ns.map PyData.str).all scalD = true
  | [] => rfl
  | _ :: ns => by rw [List.map_cons, List.all_cons, scal_strs ns]; rfl
/-- some of the pairs -/
def fP (q : Str × Str → Bool) : PyData → Option PyData
  | .tuple [.str a, .str b] => if q (a, b) then some (prD (a, b)) else none
  | _ => none
theorem fP_map (q : Str × Str → Bool) : ∀ (L : List (Str × Str)), (L.map prD).filterMap (fP q) = (L.filter q).map prD
  | [] => rfl
  | p :: L => by
    have e : fP q (prD p) = if q p then some (prD p) else none := rfl
    rw [List.map_cons, List.filterMap_cons, e, fP_map q L, List.filter_cons]
    cases q p <;> rfl
def g2 (G : List Sl) : PyData → List Sl
  | .tuple [a, b] => G ++ [.fz a, .fz b]
  | _ => []
def sortP (L : List (Str × Str)) : List (Str × Str) := L.mergeSort fun p q => leD (prD p) (prD q)
theorem prD_sh (p : Str × Str) : ∃ l, prD p = .tuple l ∧ l ≠ [] ∧ shD (fun _ => true) 0 l = true := ⟨_, rfl, List.cons_ne_nil _ _, rfl⟩
theorem prs_sh (L : List (Str × Str)) : ∀ d ∈ L.map prD, ∃ l, d = .tuple l ∧ l ≠ [] ∧ shD (fun _ => true) 0 l = true := fun d h => by
  obtain ⟨p, _, rfl⟩ := List.mem_map.mp h; exact prD_sh p
theorem sh_anti {a b : PyData} (ha : ∃ l, a = .tuple l ∧ l ≠ [] ∧ shD (fun _ => true) 0 l = true) (hb : ∃ l, b = .tuple l ∧ l ≠ [] ∧ shD (fun _ => true) 0 l = true) (h3 : leD a b = true) (h4 : leD b a = true) : a = b := by
  obtain ⟨l, rfl, _, s1⟩ := ha
  obtain ⟨m, rfl, _, s2⟩ := hb
  unfold leD at h3 h4
  have k := lex_total (O := itemOrd) (keyD (.tuple l)) (keyD (.tuple m)) (by simpa using h4) (by simpa using h3)
  rw [itm_inj s1 s2 k]
theorem sortP_perm (L : List (Str × Str)) : (sortP L).Perm L := List.mergeSort_perm L _
theorem sortP_sorted (L : List (Str × Str)) : (sortP L).Pairwise fun p q => leD (prD p) (prD q) = true := List.pairwise_mergeSort (le := fun p q => leD (prD p) (prD q)) (fun _ _ _ => leD_trans _ _ _) (fun _ _ => leD_total _ _) L
theorem sortD_map (L : List (Str × Str)) : sortD (L.map prD) = (sortP L).map prD := by
  refine sorted_uniq (R := fun x y => leD x y = true) ((sortD_perm _).trans ((sortP_perm L).map prD).symm) (fun a ha b hb => ?_) (sortD_sorted _) (List.pairwise_map.mpr (sortP_sorted L))
  exact sh_anti (prs_sh L a ((sortD_perm _).mem_iff.mp ha)) (prs_sh L b ((sortD_perm _).mem_iff.mp hb))
section
variable {P : Program} {w : World} {K : PySem.W.Frag} {mg : Str → Option Value} {base : Heap} {f : Addr} {fd : FuncData} {Tb : List Addr} {k : Nat}
def R_valueOf : List PyData → PyData → Prop := fun ds d => ∃ (L : List (Str × Str)) (n : Str), ds = [lbD L, .str n] ∧ d = .str (valD L n)
theorem ok_value_of (Fn : Fun K "value_of" "value_of" s_value_of f fd) (hm : mg "value_of" = some (.ref f)) (hb : Binds K fd ["labels", "name"] []) (Z : Zb mg) :
    Df P w K mg base 1 "value_of" ["labels", "name"] (spD K Tb R_valueOf) := by
  refine df_D Fn sc_value_of hm hb (fun ds d h => by obtain ⟨c, m, rfl, _⟩ := h; rfl) fun cdv A outer s H Ek hr => ⟨_, (pss_cons (ps_for PassesOwn.never rfl (pi_any (pv 0)) (pg_tupK (n := 2) K rfl (pgs_cons (pg_name (i := 2) sc_value_of.nd rfl (by first | exact .inl rfl | exact .inr rfl)) (pgs_cons (pg_name (i := 3) sc_value_of.nd rfl (by first | exact .inl rfl | exact .inr rfl)) pgs_nil))) (pss_one (ps_if (pt_cmpR (uEqK K hr.units) (pv 2) (pv 1) (nomark _)) (pss_one (ps_ret (pv 3))) pss_nil)))
      (pss_one (ps_ret pe_str))),  fun ds d F0 H0 Q r rt => ?_⟩
  obtain ⟨L, n, rfl, rfl⟩ := r
  refine q_for (fun _ (_ : Unit) => [.fz (lbD L), .fz (.str n), .un, .un]) (fun i _ => valD (L.drop i) n = valD L n) (it_at (e_var rfl)) () rfl (Wk.refl _) (fun F1 i _ d hd p => ?_) fun _ p => ?_
  · obtain ⟨q, hq, rfl⟩ := map_get hd
    rw [drop_get hq] at p
    refine ⟨_, _, g_tup (gs_cons g_name (gs_cons g_name gs_nil)) rfl, ?_⟩
    refine s_if (b := decide (q.1 = n)) (by walk_at "e") (fun h => ?_) fun h => ?_
    · refine s_ret (d := .str q.2) (e_var rfl) ?_
      rw [valD, if_pos (of_decide_eq_true h)] at p
      rw [p]; exact rt
    · rw [valD, if_neg (of_decide_eq_false h)] at p
      exact s_next (n_end () p (.keep rfl (.keep rfl (.drop (.drop .nil)))))
  · rw [List.length_map, List.drop_length] at p
    refine s_ret e_str ?_
    rw [← p] at rt; exact rt
def noD (L : List (Str × Str)) (ns : List Str) : List (Str × Str) := L.filter fun p => !decide (p.1 ∈ ns)
def onD (L : List (Str × Str)) (ns : List Str) : List (Str × Str) := L.filter fun p => decide (p.1 ∈ ns)
def nsOf (x : PyData) (ns : List Str) : Prop := x = .list (ns.map .str) ∨ x = .tuple (ns.map .str)
def R_without : List PyData → PyData → Prop := fun ds d => ∃ (L : List (Str × Str)) (ns : List Str) (x : PyData), ds = [lbD L, x] ∧ nsOf x ns ∧ L.length ≤ 1000 ∧ d = lbD (noD L ns)
def R_only : List PyData → PyData → Prop := fun ds d => ∃ (L : List (Str × Str)) (ns : List Str) (x : PyData), ds = [lbD L, x] ∧ nsOf x ns ∧ L.length ≤ 1000 ∧ d = lbD (onD L ns)
theorem isSome_ite {α : Type} {b : Bool} {x : α} : (if b = true then some x else none).isSome = b := by cases b <;> rfl
theorem some_ite {α : Type} {b : Bool} {x y : α} (h : (if b = true then some x else none) = some y) : y = x := by cases b <;> cases h; rfl
theorem ok_without (Fn : Fun K "without" "without" s_without f fd) (hm : mg "without" = some (.ref f)) (hb : Binds K fd ["labels", "names"] []) (Z : Zb mg) :
    Df P w K mg base 1 "without" ["labels", "names"] (spD K Tb R_without) := by
  refine df_D Fn sc_without hm hb (fun ds d h => by obtain ⟨c, m, x, rfl, _⟩ := h; rfl) fun cdv A outer s H Ek hr => ⟨_, (pss_one (ps_ret (pe_callTy (uTupK K) (by rfl) Z.tuple (by decide +kernel) (pa_cons (pe_lc (own := [("name", 2), ("value", 3)]) (by rfl) sc_without.nd (pi_any (pv 0)) (blkOk_by (own := [("name", 2), ("value", 3)]) (N := N_without) (sc := defScope s_without) (by decide +kernel)) (fun _ _ _ _ _ => (pg_tupK (n := 2) K rfl (pgs_cons (pg_name (i := 2) sc_without.nd rfl (by first | exact .inl rfl | exact .inr rfl)) (pgs_cons (pg_name (i := 3) sc_without.nd rfl (by first | exact .inl rfl | exact .inr rfl)) pgs_nil)))) (fun _ _ _ _ _ => (pts_one (pt_cmpR (uNiK K) (pv 2) (pv 1) (by rfl)))) (fun _ _ _ _ _ => (pe_tup (pa_cons (pv 2) (pa_cons (pv 3) pa_nil))))) pa_nil)))),  fun ds d F0 H0 Q r rt => ?_⟩
  obtain ⟨L, ns, x, rfl, hx, hl, rfl⟩ := r
  have sc := scal_strs ns
  unfold noD lbD at rt
  rw [← fP_map] at rt
  refine s_ret (e_tupL (el_lc (ix := [2, 3]) (fP fun p => !decide (p.1 ∈ ns)) (g2 [.fz (lbD L), .fz x]) (it_at (e_var rfl)) (by rw [List.length_map]; omega) (fun F1 d hd => ?_) (by decide) (fun F1 d hd => ?_) fun F1 d hd y hy => ?_)) rt
  · obtain ⟨p, _, rfl⟩ := List.mem_map.mp hd
    exact g_tup (gs_cons g_name (gs_cons g_name gs_nil)) rfl
  · obtain ⟨p, _, rfl⟩ := List.mem_map.mp hd
    show T _ _ _ (if (!decide (p.1 ∈ ns)) = true then some (prD p) else none).isSome
    rw [isSome_ite, ← inD_str]
    refine t_test (b_op (E.b (e_var rfl)) (E.b (e_var rfl)) ?_ rfl)
    rcases hx with rfl | rfl
    · exact ni_l rfl sc
    · exact ni_t rfl sc
  · obtain ⟨p, _, rfl⟩ := List.mem_map.mp hd
    rw [some_ite (b := !decide (p.1 ∈ ns)) hy]
    exact e_tup (a_cons (e_var rfl) (a_cons (e_var rfl) a_nil)) (Nat.le_of_ble_eq_true rfl)
theorem ok_only (Fn : Fun K "only" "only" s_only f fd) (hm : mg "only" = some (.ref f)) (hb : Binds K fd ["labels", "names"] []) (Z : Zb mg) :
    Df P w K mg base 1 "only" ["labels", "names"] (spD K Tb R_only) := by
  refine df_D Fn sc_only hm hb (fun ds d h => by obtain ⟨c, m, x, rfl, _⟩ := h; rfl) fun cdv A outer s H Ek hr => ⟨_, (pss_one (ps_ret (pe_callTy (uTupK K) (by rfl) Z.tuple (by decide +kernel) (pa_cons (pe_lc (own := [("name", 2), ("value", 3)]) (by rfl) sc_only.nd (pi_any (pv 0)) (blkOk_by (own := [("name", 2), ("value", 3)]) (N := N_only) (sc := defScope s_only) (by decide +kernel)) (fun _ _ _ _ _ => (pg_tupK (n := 2) K rfl (pgs_cons (pg_name (i := 2) sc_only.nd rfl (by first | exact .inl rfl | exact .inr rfl)) (pgs_cons (pg_name (i := 3) sc_only.nd rfl (by first | exact .inl rfl | exact .inr rfl)) pgs_nil)))) (fun _ _ _ _ _ => (pts_one (pt_cmpR (uInK K) (pv 2) (pv 1) (by rfl)))) (fun _ _ _ _ _ => (pe_tup (pa_cons (pv 2) (pa_cons (pv 3) pa_nil))))) pa_nil)))),  fun ds d F0 H0 Q r rt => ?_⟩
  obtain ⟨L, ns, x, rfl, hx, hl, rfl⟩ := r
  have sc := scal_strs ns
  unfold onD lbD at rt
  rw [← fP_map] at rt
  refine s_ret (e_tupL (el_lc (ix := [2, 3]) (fP fun p => decide (p.1 ∈ ns)) (g2 [.fz (lbD L), .fz x]) (it_at (e_var rfl)) (by rw [List.length_map]; omega) (fun F1 d hd => ?_) (by decide) (fun F1 d hd => ?_) fun F1 d hd y hy => ?_)) rt
  · obtain ⟨p, _, rfl⟩ := List.mem_map.mp hd
    exact g_tup (gs_cons g_name (gs_cons g_name gs_nil)) rfl
  · obtain ⟨p, _, rfl⟩ := List.mem_map.mp hd
    show T _ _ _ (if (decide (p.1 ∈ ns)) = true then some (prD p) else none).isSome
    rw [isSome_ite, ← inD_str]
    refine t_test (b_op (E.b (e_var rfl)) (E.b (e_var rfl)) ?_ rfl)
    rcases hx with rfl | rfl
    · exact in_l rfl sc
    · exact in_t rfl sc
  · obtain ⟨p, _, rfl⟩ := List.mem_map.mp hd
    rw [some_ite (b := decide (p.1 ∈ ns)) hy]
    exact e_tup (a_cons (e_var rfl) (a_cons (e_var rfl) a_nil)) (Nat.le_of_ble_eq_true rfl)
def wiD (L : List (Str × Str)) (n v : Str) : List (Str × Str) := noD L [n] ++ if v = "" then [] else [(n, v)]
def R_with : List PyData → PyData → Prop := fun ds d => ∃ (L : List (Str × Str)) (n v : Str), ds = [lbD L, .str n, .str v] ∧ L.length ≤ 1000 ∧ d = lbD (sortP (wiD L n v))
theorem no_len (L : List (Str × Str)) (ns : List Str) : (noD L ns).length ≤ L.length := List.length_filter_le _ _
theorem ok_with_label (Fn : Fun K "with_label" "with_label" s_with_label f fd) (hm : mg "with_label" = some (.ref f)) (hb : Binds K fd ["labels", "name", "value"] []) (Z : Zb mg) (D_without : Df P w K mg base 1 "without" ["labels", "names"] (spD K Tb R_without)) :
    Df P w K mg base 2 "with_label" ["labels", "name", "value"] (spD K Tb R_with) := by
  refine df_D Fn sc_with_label hm hb (fun ds d h => by obtain ⟨c, m, x, rfl, _⟩ := h; rfl) fun cdv A outer s H Ek hr => ⟨_, (pss_cons (ps_set (i := 3) sc_with_label.nd rfl (by first | exact .inl rfl | exact .inr rfl) (pe_callTy (uListK K (by rfl)) (by rfl) Z.list (by decide +kernel) (pa_cons (pe_df D_without hr (by decide) (by rfl) (pa_cons (pv 0) (pa_cons (pe_tup (pa_cons (pv 1) pa_nil)) pa_nil))) pa_nil)))
      (Evl.pss_cut (ps_if (pt_cmpR (uNeK K hr.units) (pv 2) pe_str (nomark _)) (pss_one (ps_expr (pe_bm PySem.F.plainAttrs_list PySem.F.slot_list_append PySem.F.type_list_append mt_append (pv 3) (pa_cons (pe_tup (pa_cons (pv 1) (pa_cons (pv 2) pa_nil))) pa_nil)))) pss_nil)
      (pss_one (ps_ret (pe_callTy (uTupK K) (by rfl) Z.tuple (by decide +kernel) (pa_cons (pe_callB (uSortK K (by rfl)) (by rfl) Z.sorted (by decide +kernel) (pa_cons (pv 3) pa_nil)) pa_nil)))))),  fun ds d F0 H0 Q r rt => ?_⟩
  obtain ⟨L, n, v, rfl, hl, rfl⟩ := r
  have nl := no_len L [n]
  refine q_asgL (lw_tup (e_call (d := lbD (noD L [n])) (by walk_at "e") ⟨L, [n], .tuple [.str n], rfl, .inr rfl, hl, rfl⟩)) ?_
  refine s_cut [.fz (lbD L), .fz (.str n), .fz (.str v), .ow ((wiD L n v).map prD)] (s_if (b := !decide (v = "")) (by walk_at "e") (fun h => ?_) fun h => ?_) ?_
  · have hv : ¬ v = "" := fun e => by rw [decide_eq_true e] at h; cases h
    have e : (wiD L n v).map prD = (noD L [n]).map prD ++ [prD (n, v)] := by unfold wiD; rw [if_neg hv, List.map_append]; rfl
    rw [e]
    exact s_app rfl (by walk_at "e") (by rw [List.length_map]; omega) (n_end1 (Wk.refl _))
  · have hv : v = "" := by
      by_cases e : v = ""
      · exact e
      · rw [decide_eq_false e] at h; cases h
    have e : wiD L n v = noD L [n] := by unfold wiD; rw [if_pos hv, List.append_nil]
    rw [e]
    exact s_next (n_end1 (Wk.refl _))
  · have hz : (wiD L n v).length ≤ 2000 := by
      unfold wiD; rw [List.length_append]; split
      · simp; omega
      · simp; omega
    unfold lbD at rt
    rw [← sortD_map] at rt
    exact s_ret (e_tupL (so_own (fun _ => true) rfl (prs_sh _) (by rw [List.length_map]; omega))) rt
end

/-! ### lists made by a walk -/
def fI (q : Int → PyData) : PyData → Option PyData
  | .int i => some (q i)
  | _ => none
theorem fm_map {α : Type} {a h : α → PyData} {f : PyData → Option PyData} (e : ∀ x, f (a x) = some (h x)) : ∀ (l : List α), (l.map a).filterMap f = l.map h
  | [] => rfl
  | x :: l => by rw [List.map_cons, List.filterMap_cons, e x, fm_map e l]; rfl
theorem fI_rng (q : Int → PyData) (n : Nat) : (rngD 0 n).filterMap (fI q) = (List.range n).map fun k => q (0 + (k : Nat)) := fm_map (f := fI q) (a := fun i : Nat => PyData.int (0 + (i : Nat))) (h := fun k => q (0 + (k : Nat))) (fun _ => rfl) _
theorem fI_ints (q : Int → PyData) (xs : List Int) : (xs.map PyData.int).filterMap (fI q) = xs.map q := fm_map (f := fI q) (a := PyData.int) (h := q) (fun _ => rfl) _
def g1 (G : List Sl) : PyData → List Sl := fun d => G ++ [.fz d]
def cutA {α : Type} (ds : List α) (lo hi : Option Int) : List α := (ds.drop (HT.sIx ds.length 0 lo)).take (HT.sIx ds.length ds.length hi - HT.sIx ds.length 0 lo)
theorem cut_map {α : Type} (a : α → PyData) (l : List α) (lo hi : Option Int) : DW.cutD (l.map a) lo hi = (cutA l lo hi).map a := by
  unfold DW.cutD cutA
  rw [List.length_map, List.map_take, List.map_drop]
theorem cut_mem {α : Type} {l : List α} {lo hi : Option Int} {x : α} (h : x ∈ cutA l lo hi) : x ∈ l := List.mem_of_mem_drop (List.mem_of_mem_take h)
theorem cut_len {α : Type} (l : List α) (lo hi : Option Int) : (cutA l lo hi).length ≤ l.length := by
  unfold cutA; rw [List.length_take, List.length_drop]; omega
def nmsF (c : Int) (m : Nat) : List Str := (List.range m).map fun k => nmF (itI (draws c (2 * m)) (2 * (0 + (k : Nat)))) (itI (draws c (2 * m)) (2 * (0 + (k : Nat)) + 1))
def wrsF (c : Int) (m : Nat) : List Str := (List.range m).map fun k => wrF (itI (draws c (2 * m)) (2 * (0 + (k : Nat)))) (itI (draws c (2 * m)) (2 * (0 + (k : Nat)) + 1))
/-! the pairs of a draw -/
def lbs (D : List Int) (ns ws : List Str) : Nat → List (Str × Str)
  | 0 => []
  | i + 1 => if itS ns (itI D (0 + (i : Nat) * 2) % ns.length) ∈ (lbs D ns ws i).map (·.1) then lbs D ns ws i else lbs D ns ws i ++ [(itS ns (itI D (0 + (i : Nat) * 2) % ns.length), itS ws (itI D (0 + (i : Nat) * 2 + 1) % ws.length))]
theorem lbs_len (D : List Int) (ns ws : List Str) : ∀ i, (lbs D ns ws i).length ≤ i
  | 0 => Nat.le_refl _
  | i + 1 => by
    have := lbs_len D ns ws i
    unfold lbs
    split
    · omega
    · rw [List.length_append]; exact Nat.succ_le_succ this
def someF (D : List Int) (ns : List Str) : List Str := (cutA D none (some (1 + itI D 0 % 4))).map fun x => itS ns (x % ns.length)
section
variable {P : Program} {w : World} {K : PySem.W.Frag} {mg : Str → Option Value} {base : Heap} {f : Addr} {fd : FuncData} {Tb : List Addr} {k : Nat}
def R_names : List PyData → PyData → Prop := fun ds d => ∃ (c : Int) (m : Nat), ds = [.int c, .int m] ∧ m ≤ 100 ∧ d = sL (nmsF c m)
def R_worths : List PyData → PyData → Prop := fun ds d => ∃ (c : Int) (m : Nat), ds = [.int c, .int m] ∧ m ≤ 100 ∧ d = sL (wrsF c m)
theorem ok_names (Fn : Fun K "_law_names" "_law_names" s_l_law_names f fd) (hm : mg "_law_names" = some (.ref f)) (hb : Binds K fd ["cell", "many"] []) (Z : Zb mg)
    (D_l_law_draws : Df P w K mg base 1 "_law_draws" ["cell", "many"] (spD K Tb R_draws)) (D_l_law_name : Df P w K mg base 1 "_law_name" ["first", "second"] (spD K Tb R_name)) :
    Df P w K mg base 2 "_law_names" ["cell", "many"] (spD K Tb R_names) := by
  refine df_D Fn sc_l_law_names hm hb (fun ds d h => by obtain ⟨c, m, rfl, _⟩ := h; rfl) fun cdv A outer s H Ek hr => ⟨_, (pss_cons (ps_set (i := 2) sc_l_law_names.nd rfl (by first | exact .inl rfl | exact .inr rfl) (pe_df D_l_law_draws hr (by decide) (by rfl) (pa_cons (pv 0) (pa_cons (pe_op uMul pe_int (pv 1)) pa_nil))))
      (pss_one (ps_ret (pe_lc (own := [("k", 3)]) (by rfl) sc_l_law_names.nd (pi_range1 (by rfl) Z.range (pa_cons (pv 1) pa_nil)) (blkOk_by (own := [("k", 3)]) (N := N_l_law_names) (sc := defScope s_l_law_names) (by decide +kernel)) (fun _ _ _ _ _ => (pg_name (i := 3) sc_l_law_names.nd rfl (by first | exact .inl rfl | exact .inr rfl))) (fun _ _ _ _ _ => pts_nil) (fun _ _ _ _ _ => (pe_df D_l_law_name hr (by decide) (by rfl) (pa_cons (pe_ix (ix_seqK K) (pv 2) (pe_op uMul pe_int (pv 3)) (fun _ _ => rfl)) (pa_cons (pe_ix (ix_seqK K) (pv 2) (pe_op (uAddK K) (pe_op uMul pe_int (pv 3)) pe_int) (fun _ _ => rfl)) pa_nil)))))))),  fun ds d F0 H0 Q r rt => ?_⟩
  obtain ⟨c, m, rfl, hm, rfl⟩ := r
  have e2 : ((2 * m : Nat) : Int) = 2 * (m : Int) := by omega
  refine q_asg (d := iL (draws c (2 * m))) (e_call (ds := [.int c, .int (2 * (m : Int))]) (by walk_at "e") ⟨c, 2 * m, by rw [e2], by omega, rfl⟩) ?_
  have er : (nmsF c m).map PyData.str = (rngD 0 ((m : Int)).toNat).filterMap (fI fun i => .str (nmF (itI (draws c (2 * m)) (2 * i)) (itI (draws c (2 * m)) (2 * i + 1)))) := by
    rw [fI_rng, nmsF, List.map_map]; rfl
  unfold sL at rt
  rw [er] at rt
  refine s_ret (EL.e (el_lc (ix := [3]) _ (g1 [.fz (.int c), .fz (.int m), .fz (iL (draws c (2 * m)))]) (it_rng1 (n := (m : Int)) (by walk_at "e") (by omega) (by omega)) (by rw [rngD_len]; omega) (fun F1 d hd => g_name) (by decide) (fun F1 d hd => ?_) fun F1 d hd y hy => ?_)) rt
  · obtain ⟨i, hi⟩ := List.getElem?_of_mem hd
    obtain ⟨_, rfl⟩ := rngD_get hi
    exact t_yes
  · obtain ⟨i, hi⟩ := List.getElem?_of_mem hd
    obtain ⟨h1, rfl⟩ := rngD_get hi
    cases hy
    have dl := draws_len c (2 * m)
    have a1 : atI ((draws c (2 * m)).map PyData.int) (2 * (0 + (i : Nat))) = _ := at_int (by omega) (by omega)
    have a2 : atI ((draws c (2 * m)).map PyData.int) (2 * (0 + (i : Nat)) + 1) = _ := at_int (by omega) (by omega)
    refine e_call (ds := [.int (itI (draws c (2 * m)) (2 * (0 + (i : Nat)))), .int (itI (draws c (2 * m)) (2 * (0 + (i : Nat)) + 1))]) ?_ ⟨_, _, rfl, rfl⟩
    walk_at "e"
theorem ok_worths (Fn : Fun K "_law_worths" "_law_worths" s_l_law_worths f fd) (hm : mg "_law_worths" = some (.ref f)) (hb : Binds K fd ["cell", "many"] []) (Z : Zb mg)
    (D_l_law_draws : Df P w K mg base 1 "_law_draws" ["cell", "many"] (spD K Tb R_draws)) (D_l_law_worth : Df P w K mg base 1 "_law_worth" ["first", "second"] (spD K Tb R_worth)) :
    Df P w K mg base 2 "_law_worths" ["cell", "many"] (spD K Tb R_worths) := by
  refine df_D Fn sc_l_law_worths hm hb (fun ds d h => by obtain ⟨c, m, rfl, _⟩ := h; rfl) fun cdv A outer s H Ek hr => ⟨_, (pss_cons (ps_set (i := 2) sc_l_law_worths.nd rfl (by first | exact .inl rfl | exact .inr rfl) (pe_df D_l_law_draws hr (by decide) (by rfl) (pa_cons (pv 0) (pa_cons (pe_op uMul pe_int (pv 1)) pa_nil))))
      (pss_one (ps_ret (pe_lc (own := [("k", 3)]) (by rfl) sc_l_law_worths.nd (pi_range1 (by rfl) Z.range (pa_cons (pv 1) pa_nil)) (blkOk_by (own := [("k", 3)]) (N := N_l_law_worths) (sc := defScope s_l_law_worths) (by decide +kernel)) (fun _ _ _ _ _ => (pg_name (i := 3) sc_l_law_worths.nd rfl (by first | exact .inl rfl | exact .inr rfl))) (fun _ _ _ _ _ => pts_nil) (fun _ _ _ _ _ => (pe_df D_l_law_worth hr (by decide) (by rfl) (pa_cons (pe_ix (ix_seqK K) (pv 2) (pe_op uMul pe_int (pv 3)) (fun _ _ => rfl)) (pa_cons (pe_ix (ix_seqK K) (pv 2) (pe_op (uAddK K) (pe_op uMul pe_int (pv 3)) pe_int) (fun _ _ => rfl)) pa_nil)))))))),  fun ds d F0 H0 Q r rt => ?_⟩
  obtain ⟨c, m, rfl, hm, rfl⟩ := r
  have e2 : ((2 * m : Nat) : Int) = 2 * (m : Int) := by omega
  refine q_asg (d := iL (draws c (2 * m))) (e_call (ds := [.int c, .int (2 * (m : Int))]) (by walk_at "e") ⟨c, 2 * m, by rw [e2], by omega, rfl⟩) ?_
  have er : (wrsF c m).map PyData.str = (rngD 0 ((m : Int)).toNat).filterMap (fI fun i => .str (wrF (itI (draws c (2 * m)) (2 * i)) (itI (draws c (2 * m)) (2 * i + 1)))) := by
    rw [fI_rng, wrsF, List.map_map]; rfl
  unfold sL at rt
  rw [er] at rt
  refine s_ret (EL.e (el_lc (ix := [3]) _ (g1 [.fz (.int c), .fz (.int m), .fz (iL (draws c (2 * m)))]) (it_rng1 (n := (m : Int)) (by walk_at "e") (by omega) (by omega)) (by rw [rngD_len]; omega) (fun F1 d hd => g_name) (by decide) (fun F1 d hd => ?_) fun F1 d hd y hy => ?_)) rt
  · obtain ⟨i, hi⟩ := List.getElem?_of_mem hd
    obtain ⟨_, rfl⟩ := rngD_get hi
    exact t_yes
  · obtain ⟨i, hi⟩ := List.getElem?_of_mem hd
    obtain ⟨h1, rfl⟩ := rngD_get hi
    cases hy
    have dl := draws_len c (2 * m)
    have a1 : atI ((draws c (2 * m)).map PyData.int) (2 * (0 + (i : Nat))) = _ := at_int (by omega) (by omega)
    have a2 : atI ((draws c (2 * m)).map PyData.int) (2 * (0 + (i : Nat)) + 1) = _ := at_int (by omega) (by omega)
    refine e_call (ds := [.int (itI (draws c (2 * m)) (2 * (0 + (i : Nat)))), .int (itI (draws c (2 * m)) (2 * (0 + (i : Nat)) + 1))]) ?_ ⟨_, _, rfl, rfl⟩
    walk_at "e"
def R_labels : List PyData → PyData → Prop := fun ds d => ∃ (D : List Int) (ns ws : List Str), ds = [iL D, sL ns, sL ws] ∧ D.length = 12 ∧ 0 < ns.length ∧ 0 < ws.length ∧ d = lbD (sortP (lbs D ns ws 6))
theorem ok_labels (Fn : Fun K "_law_labels" "_law_labels" s_l_law_labels f fd) (hm : mg "_law_labels" = some (.ref f)) (hb : Binds K fd ["draws", "names", "worths"] []) (Z : Zb mg) :
    Df P w K mg base 1 "_law_labels" ["draws", "names", "worths"] (spD K Tb R_labels) := by
  refine df_D Fn sc_l_law_labels hm hb (fun ds d h => by obtain ⟨c, m, x, rfl, _⟩ := h; rfl) fun cdv A outer s H Ek hr => ⟨_, (pss_cons (ps_set (i := 3) sc_l_law_labels.nd rfl (by first | exact .inl rfl | exact .inr rfl) (pe_lst pa_nil))
      (pss_cons (ps_set (i := 4) sc_l_law_labels.nd rfl (by first | exact .inl rfl | exact .inr rfl) (pe_lst pa_nil))
      (pss_cons (ps_for PassesOwn.never rfl (pi_range3 (by rfl) Z.range (pa_cons pe_int (pa_cons (pe_op op_sub (pe_callB (uLenK K) (by rfl) Z.len (by decide +kernel) (pa_cons (pv 0) pa_nil)) pe_int) (pa_cons pe_int pa_nil)))) (pg_name (i := 5) sc_l_law_labels.nd rfl (by first | exact .inl rfl | exact .inr rfl)) (pss_cons (ps_set (i := 6) sc_l_law_labels.nd rfl (by first | exact .inl rfl | exact .inr rfl) (pe_ix (ix_seqK K) (pv 1) (pe_op op_mod (pe_callTy uInt (by rfl) Z.int (by decide +kernel) (pa_cons (pe_ix (ix_seqK K) (pv 0) (pv 5) (fun _ _ => rfl)) pa_nil)) (pe_callB (uLenK K) (by rfl) Z.len (by decide +kernel) (pa_cons (pv 1) pa_nil))) (fun _ _ => rfl)))
      (pss_one (ps_if (pt_cmpR (uNiK K) (pv 6) (pv 4) (by rfl)) (pss_cons (ps_expr (pe_bm PySem.F.plainAttrs_list PySem.F.slot_list_append PySem.F.type_list_append mt_append (pv 4) (pa_cons (pv 6) pa_nil)))
      (pss_one (ps_expr (pe_bm PySem.F.plainAttrs_list PySem.F.slot_list_append PySem.F.type_list_append mt_append (pv 3) (pa_cons (pe_tup (pa_cons (pv 6) (pa_cons (pe_ix (ix_seqK K) (pv 2) (pe_op op_mod (pe_callTy uInt (by rfl) Z.int (by decide +kernel) (pa_cons (pe_ix (ix_seqK K) (pv 0) (pe_op (uAddK K) (pv 5) pe_int) (fun _ _ => rfl)) pa_nil)) (pe_callB (uLenK K) (by rfl) Z.len (by decide +kernel) (pa_cons (pv 2) pa_nil))) (fun _ _ => rfl)) pa_nil))) pa_nil))))) pss_nil))))
      (pss_one (ps_ret (pe_callTy (uTupK K) (by rfl) Z.tuple (by decide +kernel) (pa_cons (pe_callB (uSortK K (by rfl)) (by rfl) Z.sorted (by decide +kernel) (pa_cons (pv 3) pa_nil)) pa_nil))))))),  fun ds d F0 H0 Q r rt => ?_⟩
  obtain ⟨D, ns, ws, rfl, hD, hn, hw, rfl⟩ := r
  have l1 : ((D.map PyData.int).length : Int) - 1 = 11 := by rw [List.length_map, hD]; rfl
  have l2 : ((ns.map PyData.str).length : Int) = ns.length := by rw [List.length_map]
  have l3 : ((ws.map PyData.str).length : Int) = ws.length := by rw [List.length_map]
  have p2 : (0 : Int) < ((ns.map PyData.str).length : Int) := by omega
  have p3 : (0 : Int) < ((ws.map PyData.str).length : Int) := by omega
  refine q_asgL (el_lst a_nil (by decide)) (q_asgL (el_lst a_nil (by decide)) ?_)
  refine q_for1 (fun i => [.fz (iL D), .fz (sL ns), .fz (sL ws), .ow ((lbs D ns ws i).map prD), .ow (((lbs D ns ws i).map (·.1)).map .str), .un, .un]) (it_rng3 (lo := 0) (hi := ((D.map PyData.int).length : Int) - 1) (c := 2) (n := 6) (by walk_at "e") (by rw [l1]; exact ⟨by decide, by decide, by decide, by decide⟩)) (Wk.refl _) (fun F1 i d hd => ?_) ?_
  · obtain ⟨hi, rfl⟩ := rngC_get hd
    refine ⟨_, _, g_name, ?_⟩
    have a1 : atI (D.map PyData.int) (0 + (i : Nat) * 2) = _ := at_int (by omega) (by omega)
    have a2 : atI (D.map PyData.int) (0 + (i : Nat) * 2 + 1) = _ := at_int (by omega) (by omega)
    have m1 := md (itI D (0 + (i : Nat) * 2)) ns.length (by omega)
    have m2 := md (itI D (0 + (i : Nat) * 2 + 1)) ws.length (by omega)
    have a3 : atI (ns.map PyData.str) (itI D (0 + (i : Nat) * 2) % ((ns.map PyData.str).length : Int)) = some (.str (itS ns (itI D (0 + (i : Nat) * 2) % ns.length))) := by rw [l2]; exact at_str m1.1 m1.2
    have a4 : atI (ws.map PyData.str) (itI D (0 + (i : Nat) * 2 + 1) % ((ws.map PyData.str).length : Int)) = some (.str (itS ws (itI D (0 + (i : Nat) * 2 + 1) % ws.length))) := by rw [l3]; exact at_str m2.1 m2.2
    have sc := scal_strs ((lbs D ns ws i).map (·.1))
    have ll := lbs_len D ns ws i
    refine q_asg (d := .str (itS ns (itI D (0 + (i : Nat) * 2) % ns.length))) (by walk_at "e") ?_
    refine s_if (b := !inD (.str (itS ns (itI D (0 + (i : Nat) * 2) % ns.length))) (((lbs D ns ws i).map (·.1)).map .str)) (by walk_at "e") (fun h => ?_) fun h => ?_
    · rw [inD_str, Bool.not_eq_true'] at h
      have h' := of_decide_eq_false h
      have e : lbs D ns ws (i + 1) = lbs D ns ws i ++ [(itS ns (itI D (0 + (i : Nat) * 2) % ns.length), itS ws (itI D (0 + (i : Nat) * 2 + 1) % ws.length))] := by
        show (if _ then _ else _) = _
        rw [if_neg h']
      refine q_app (d := .str (itS ns (itI D (0 + (i : Nat) * 2) % ns.length))) rfl (by walk_at "e") (by rw [List.length_map, List.length_map]; omega) ?_
      refine s_app (d := prD (itS ns (itI D (0 + (i : Nat) * 2) % ns.length), itS ws (itI D (0 + (i : Nat) * 2 + 1) % ws.length))) rfl (by walk_at "e") (by rw [List.length_map]; omega) (n_end1 ?_)
      refine .keep rfl (.keep rfl (.keep rfl (.keep ?_ (.keep ?_ (.drop (.drop .nil))))))
      · show Sl.ow ((lbs D ns ws (i + 1)).map prD) = _
        rw [e, List.map_append]; rfl
      · show Sl.ow (((lbs D ns ws (i + 1)).map (·.1)).map PyData.str) = _
        rw [e, List.map_append, List.map_append]; rfl
    · rw [inD_str, Bool.not_eq_false'] at h
      have h' := of_decide_eq_true h
      have e : lbs D ns ws (i + 1) = lbs D ns ws i := by
        show (if _ then _ else _) = _
        rw [if_pos h']
      refine s_next (n_end1 (.keep rfl (.keep rfl (.keep rfl (.keep ?_ (.keep ?_ (.drop (.drop .nil))))))))
      · show Sl.ow ((lbs D ns ws (i + 1)).map prD) = _
        rw [e]
      · show Sl.ow (((lbs D ns ws (i + 1)).map (·.1)).map PyData.str) = _
        rw [e]
  · rw [rngC_len]
    have hz := lbs_len D ns ws 6
    unfold lbD at rt
    rw [← sortD_map] at rt
    exact s_ret (e_tupL (so_own (fun _ => true) rfl (prs_sh _) (by rw [List.length_map]; omega))) rt
def R_some : List PyData → PyData → Prop := fun ds d => ∃ (D : List Int) (ns : List Str), ds = [iL D, sL ns] ∧ 0 < D.length ∧ D.length ≤ 1000 ∧ 0 < ns.length ∧ d = sL (someF D ns)
theorem ok_some (Fn : Fun K "_law_some" "_law_some" s_l_law_some f fd) (hm : mg "_law_some" = some (.ref f)) (hb : Binds K fd ["draws", "names"] []) (Z : Zb mg) :
    Df P w K mg base 1 "_law_some" ["draws", "names"] (spD K Tb R_some) := by
  refine df_D Fn sc_l_law_some hm hb (fun ds d h => by obtain ⟨c, m, rfl, _⟩ := h; rfl) fun cdv A outer s H Ek hr => ⟨_, (pss_one (ps_ret (pe_lc (own := [("draw", 2)]) (by rfl) sc_l_law_some.nd (pi_any (pe_slice (uSlK K) (pv 0) po_none (po_some (pe_op (uAddK K) pe_int (pe_op op_mod (pe_ix (ix_seqK K) (pv 0) pe_int (fun _ _ => rfl)) pe_int))))) (blkOk_by (own := [("draw", 2)]) (N := N_l_law_some) (sc := defScope s_l_law_some) (by decide +kernel)) (fun _ _ _ _ _ => (pg_name (i := 2) sc_l_law_some.nd rfl (by first | exact .inl rfl | exact .inr rfl))) (fun _ _ _ _ _ => pts_nil) (fun _ _ _ _ _ => (pe_ix (ix_seqK K) (pv 1) (pe_op op_mod (pv 2) (pe_callB (uLenK K) (by rfl) Z.len (by decide +kernel) (pa_cons (pv 1) pa_nil))) (fun _ _ => rfl)))))),  fun ds d F0 H0 Q r rt => ?_⟩
  obtain ⟨D, ns, rfl, hD, hz, hn, rfl⟩ := r
  have l2 : ((ns.map PyData.str).length : Int) = ns.length := by rw [List.length_map]
  have p2 : (0 : Int) < ((ns.map PyData.str).length : Int) := by omega
  have a0 : atI (D.map PyData.int) 0 = _ := at_int (by omega) (by omega)
  have er : (someF D ns).map PyData.str = (DW.cutD (D.map PyData.int) none (some (1 + itI D 0 % 4))).filterMap (fI fun x => .str (itS ns (x % ns.length))) := by
    rw [cut_map, fI_ints, someF, List.map_map]; rfl
  unfold sL at rt
  rw [er] at rt
  have cl := cut_len D none (some (1 + itI D 0 % 4))
  refine s_ret (EL.e (el_lc (ix := [2]) _ (g1 [.fz (iL D), .fz (sL ns)]) (it_al (EL.e (el_sl (lo := none) (hi := some (1 + itI D 0 % 4)) (e_var rfl) (by walk_at "e") (by walk_at "e")))) (by rw [cut_map, List.length_map]; omega) (fun F1 d hd => g_name) (by decide) (fun F1 d hd => ?_) fun F1 d hd y hy => ?_)) rt
  · rw [cut_map] at hd
    obtain ⟨x, _, rfl⟩ := List.mem_map.mp hd
    exact t_yes
  · rw [cut_map] at hd
    obtain ⟨x, _, rfl⟩ := List.mem_map.mp hd
    cases hy
    have m1 := md x ns.length (by omega)
    have a3 : atI (ns.map PyData.str) (x % ((ns.map PyData.str).length : Int)) = some (.str (itS ns (x % ns.length))) := by rw [l2]; exact at_str m1.1 m1.2
    walk_at "e"
end

/-! ### what is known -/
def gtS (M : List (Str × Str)) (n : Str) : Option Str := (M.find? fun p => decide (p.1 = n)).map (·.2)
def ptS (M : List (Str × Str)) (n v : Str) : List (Str × Str) := if (M.any fun p => decide (p.1 = n)) = true then M.map (fun p => if p.1 = n then (p.1, v) else p) else M ++ [(n, v)]
abbrev mD (M : List (Str × Str)) : List (Str × PyData) := M.map fun p => (p.1, .str p.2)
theorem getK_mD (n : Str) : ∀ (M : List (Str × Str)), getK (mD M) n = (gtS M n).map PyData.str
  | [] => rfl
  | p :: M => by
    have ih := getK_mD n M
    unfold getK gtS mD at ih ⊢
    rw [List.map_cons, List.find?_cons, List.find?_cons]
    by_cases e : p.1 = n
    · rw [decide_eq_true e]; rfl
    · rw [decide_eq_false e]; exact ih
theorem any_mD (n : Str) : ∀ (M : List (Str × Str)), ((mD M).any fun p => decide (p.1 = n)) = (M.any fun p => decide (p.1 = n))
  | [] => rfl
  | p :: M => by
    have ih := any_mD n M
    unfold mD at ih ⊢
    rw [List.map_cons, List.any_cons, List.any_cons, ih]
theorem putD_mD (n v : Str) (M : List (Str × Str)) : putD (mD M) n (.str v) = mD (ptS M n v) := by
  unfold putD ptS
  rw [any_mD]
  split
  · unfold mD
    rw [List.map_map, List.map_map]
    refine List.map_congr_left fun p _ => ?_
    show (if p.1 = n then _ else _) = (_, _)
    by_cases e : p.1 = n
    · rw [if_pos e]; show _ = ((if p.1 = n then (p.1, v) else p).1, PyData.str (if p.1 = n then (p.1, v) else p).2); rw [if_pos e]
    · rw [if_neg e]; show _ = ((if p.1 = n then (p.1, v) else p).1, PyData.str (if p.1 = n then (p.1, v) else p).2); rw [if_neg e]
  · unfold mD; rw [List.map_append]; rfl
theorem keys_mD (M : List (Str × Str)) : (mD M).map (·.1) = M.map (·.1) := by unfold mD; rw [List.map_map]; rfl
theorem gt_mem {n : Str} : ∀ {M : List (Str × Str)}, n ∈ M.map (·.1) → ∃ v, gtS M n = some v
  | [], h => by cases h
  | p :: M, h => by
    unfold gtS
    rw [List.find?_cons]
    by_cases e : p.1 = n
    · rw [decide_eq_true e]; exact ⟨p.2, rfl⟩
    · rw [decide_eq_false e]
      rw [List.map_cons] at h
      rcases List.mem_cons.mp h with h | h
      · exact absurd h.symm e
      · exact gt_mem h
/-! what is due -/
def fDue (M : List (Str × Str)) (n : Str) : Option (Str × Str) := match gtS M n with
  | some v => if v = "" then none else some (n, v)
  | none => none
def dueF (M : List (Str × Str)) : List (Str × Str) := (sortS (M.map (·.1))).filterMap (fDue M)
def fD (M : List (Str × Str)) : PyData → Option PyData
  | .str n => (fDue M n).map prD
  | _ => none
theorem fD_map (M : List (Str × Str)) : ∀ (l : List Str), (l.map PyData.str).filterMap (fD M) = (l.filterMap (fDue M)).map prD
  | [] => rfl
  | n :: l => by
    rw [List.map_cons, List.filterMap_cons, List.filterMap_cons, fD_map M l]
    have e : fD M (PyData.str n) = (fDue M n).map prD := rfl
    rw [e]
    cases fDue M n <;> rfl
theorem str_refl (a : Str) : PyData.eqv (.str a) (.str a) = true := beq_self_eq_true a
theorem pr_refl (p : Str × Str) : PyData.eqv (prD p) (prD p) = true := by
  show ((PyData.str p.1).eqv (PyData.str p.1) && ((PyData.str p.2).eqv (PyData.str p.2) && true)) = true
  rw [str_refl, str_refl]; rfl
theorem prs_refl : ∀ (L : List (Str × Str)), PyData.eqvAll (L.map prD) (L.map prD) = true
  | [] => rfl
  | p :: L => by
    show ((prD p).eqv (prD p) && PyData.eqvAll (L.map prD) (L.map prD)) = true
    rw [pr_refl, prs_refl L]; rfl
def okS (p : Str × Str) : Prop := PyData.strOk p.1 = true ∧ PyData.strOk p.2 = true
theorem pr_lay {p : Str × Str} (h : okS p) : (prD p).canLay0 = true := by
  show (PyData.strOk p.1 && (PyData.strOk p.2 && true)) = true
  rw [h.1, h.2]; rfl
theorem prs_lay : ∀ {L : List (Str × Str)}, (∀ p ∈ L, okS p) → PyData.canLayAll0 (L.map prD) = true
  | [], _ => rfl
  | p :: L, h => by
    show ((prD p).canLay0 && PyData.canLayAll0 (L.map prD)) = true
    rw [pr_lay (h p List.mem_cons_self), prs_lay fun q hq => h q (List.mem_cons_of_mem _ hq)]; rfl
theorem prs_deep : ∀ (L : List (Str × Str)), PyData.depthAll (L.map prD) ≤ 1
  | [] => Nat.zero_le _
  | p :: L => by
    show max ((max 0 (max 0 0)) + 1) (PyData.depthAll (L.map prD)) ≤ 1
    have := prs_deep L
    omega
theorem prs_shaped {L : List (Str × Str)} (h : ∀ p ∈ L, okS p) : SeqAt.shaped (.list (L.map prD)) = true := by
  have h1 : (PyData.list (L.map prD)).canLay0 = true := prs_lay h
  have h2 : (PyData.list (L.map prD)).depth ≤ 64 := by
    show PyData.depthAll (L.map prD) + 1 ≤ 64
    have := prs_deep L
    omega
  unfold SeqAt.shaped
  rw [h1, decide_eq_true h2]; rfl
theorem at_pr {xs : List (Str × Str)} {k : Int} (h0 : 0 ≤ k) (h1 : k < xs.length) : ∃ p, xs[k.toNat]? = some p ∧ atI (xs.map prD) k = some (prD p) := by
  refine ⟨xs[k.toNat]'(by omega), List.getElem?_eq_getElem (by omega), ?_⟩
  rw [at_nat h0 (by rw [List.length_map]; omega), List.getElem?_map, List.getElem?_eq_getElem (by omega)]; rfl
/-- the labels tell what is known -/
structure Agr (L : List (Str × Str)) (ns : List Str) (M : List (Str × Str)) : Prop where
  srt : L.Pairwise fun p q => ltS p.1 q.1 = true
  due : dueF M = L
  val : ∀ n ∈ ns, valD L n = (gtS M n).getD ""
  ok : ∀ p ∈ L, okS p
  ll : L.length ≤ 63
  lm : M.length ≤ 63
section
variable {P : Program} {w : World} {K : PySem.W.Frag} {mg : Str → Option Value} {base : Heap} {f : Addr} {fd : FuncData} {Tb : List Addr} {k : Nat}
def R_agrees : List Ag → PyData → Prop := fun as d => ∃ (L : List (Str × Str)) (ns : List Str) (M : List (Str × Str)), as = [.d (lbD L), .d (sL ns), .k (mD M)] ∧ Agr L ns M ∧ d = .bool true
theorem ok_agrees (Fn : Fun K "_law_agrees" "_law_agrees" s_l_law_agrees f fd) (hm : mg "_law_agrees" = some (.ref f)) (hb : Binds K fd ["labels", "names", "known"] []) (Z : Zb mg)
    (D_value_of : Df P w K mg base 1 "value_of" ["labels", "name"] (spD K Tb R_valueOf)) :
    Df P w K mg base 2 "_law_agrees" ["labels", "names", "known"] (spK K Tb R_agrees) := by
  refine df_K Fn sc_l_law_agrees hm hb (fun ds d h => by obtain ⟨c, m, x, rfl, _⟩ := h; rfl) fun cdv A outer s H Ek hr => ⟨_, (pss_cons (ps_if (pt_not (pt_truthK K (pe_callB (call_isiK K) (by rfl) Z.isinstance (by decide +kernel) (pa_cons (pv 0) (pa_cons (pe_bltn (by rfl) Z.tuple (by decide +kernel) (show RelV (.ty "tuple") (.type "tuple") from rfl)) pa_nil))) (by intro _; rfl))) (pss_one (ps_ret pe_bl)) pss_nil)
      (pss_cons (ps_for PassesOwn.never rfl (pi_range1 (by rfl) Z.range (pa_cons (pe_callB (uLenK K) (by rfl) Z.len (by decide +kernel) (pa_cons (pv 0) pa_nil)) pa_nil)) (pg_name (i := 3) sc_l_law_agrees.nd rfl (by first | exact .inl rfl | exact .inr rfl)) (pss_cons (ps_if (PW.pt (pw_or (pt_not (pt_truthK K (pe_callB (call_isiK K) (by rfl) Z.isinstance (by decide +kernel) (pa_cons (pe_ix (ix_seqK K) (pv 0) (pv 3) (fun _ _ => rfl)) (pa_cons (pe_bltn (by rfl) Z.tuple (by decide +kernel) (show RelV (.ty "tuple") (.type "tuple") from rfl)) pa_nil))) (by intro _; rfl))) (pw_or1 (pt_cmpR (uNeK K hr.units) (pe_callB (uLenK K) (by rfl) Z.len (by decide +kernel) (pa_cons (pe_ix (ix_seqK K) (pv 0) (pv 3) (fun _ _ => rfl)) pa_nil)) pe_int (nomark _))))) (pss_one (ps_ret pe_bl)) pss_nil)
      (pss_one (ps_if (PW.pt (pw_and (pt_cmpR op_gt (pv 3) pe_int (nomark _)) (pw_and1 (pt_not (pt_cmpR uLt (pe_ix (ix_seqK K) (pe_ix (ix_seqK K) (pv 0) (pe_op op_sub (pv 3) pe_int) (fun _ _ => rfl)) pe_int (fun _ _ => rfl)) (pe_ix (ix_seqK K) (pe_ix (ix_seqK K) (pv 0) (pv 3) (fun _ _ => rfl)) pe_int (fun _ _ => rfl)) (nomark _)))))) (pss_one (ps_ret pe_bl)) pss_nil))))
      (pss_cons (ps_setLc (i := 4) (own := [("name", 5)]) (by rfl) sc_l_law_agrees.nd rfl rfl (sw_true rfl rfl rfl (by decide +kernel)) (pi_any (pe_callB (uSortK K (by rfl)) (by rfl) Z.sorted (by decide +kernel) (pa_cons (pv 2) pa_nil))) (blkOk_by (own := [("name", 5)]) (N := N_l_law_agrees) (sc := defScope s_l_law_agrees) (by decide +kernel)) (fun _ _ _ _ _ => (pg_name (i := 5) sc_l_law_agrees.nd rfl (by first | exact .inl rfl | exact .inr rfl))) (fun _ _ _ _ _ => (pts_one (pt_cmpR (uNeK K hr.units) (pe_dget (hu_of hr) (pv 2) (pv 5) (fun _ _ => rfl)) pe_str (nomark _)))) (fun _ _ _ _ _ => (pe_tup (pa_cons (pv 5) (pa_cons (pe_dget (hu_of hr) (pv 2) (pv 5) (fun _ _ => rfl)) pa_nil)))))
      (pss_cons (ps_if (pt_cmpR (uNeK K hr.units) (pe_callTy (uListK K (by rfl)) (by rfl) Z.list (by decide +kernel) (pa_cons (pv 0) pa_nil)) (pv 4) (nomark _)) (pss_one (ps_ret pe_bl)) pss_nil)
      (pss_cons (ps_for PassesOwn.never rfl (pi_any (pv 1)) (pg_name (i := 5) sc_l_law_agrees.nd rfl (by first | exact .inl rfl | exact .inr rfl)) (pss_one (ps_if (pt_cmpR (uNeK K hr.units) (pe_df D_value_of hr (by decide) (by rfl) (pa_cons (pv 0) (pa_cons (pv 5) pa_nil))) (pe_dget2 (hu_of hr) (pv 2) (pv 5) pe_str (M2.mk (by rfl) (by rfl) (by rfl) (by rfl))) (nomark _)) (pss_one (ps_ret pe_bl)) pss_nil)))
      (pss_one (ps_ret pe_bl))))))),  fun ds d F0 H0 Q r rt => ?_⟩
  obtain ⟨L, ns, M, rfl, ag, rfl⟩ := r
  have ll := ag.ll
  have lm := ag.lm
  have lL : ((L.map prD).length : Int) = L.length := by rw [List.length_map]
  refine q_if (b := !true) (t_not (t_tru (E.b (e_isiT (E.b (e_var rfl)))) rfl)) (fun h => by cases h) fun _ => ?_
  refine s_next (n_go ?_)
  refine q_for1 (fun i => [.fz (lbD L), .fz (sL ns), .fk (mD M), .un, .un, .un]) (it_rng1 (n := ((L.map prD).length : Int)) (by walk_at "e") (by omega) (by omega)) (Wk.refl _) (fun F1 i d hd => ?_) ?_
  · obtain ⟨hi, rfl⟩ := rngD_get hd
    rw [lL] at hi
    refine ⟨_, _, g_name, ?_⟩
    obtain ⟨p, hp, a1⟩ := at_pr (xs := L) (k := 0 + (i : Nat)) (by omega) (by omega)
    refine q_if (b := !true || false) ?_ (fun h => by cases h) fun _ => ?_
    · refine t_or (t_not (t_tru (E.b (e_isiT (ds := [.str p.1, .str p.2]) (E.b (by walk_at "e")))) rfl)) fun _ => ?_
      have : T { K := K, T := Tb, F0 := F0, H0 := H0, Fl := F1 } (tTest (tOp (rNeU K) (tCB (rLenU K) (tCons (tOp (rIx K) (tVar 0) (tVar 3)) tNil)) (tC (.int 2)))) [.fz (lbD L), .fz (sL ns), .fk (mD M), .fz (.int (0 + (i : Nat))), .un, .un] (!decide ((2 : Int) = 2)) := by
        walk_at "e"
      exact this
    · refine s_next (n_go ?_)
      refine s_if (b := decide ((0 : Int) < 0 + (i : Nat)) && false) ?_ (fun h => by rw [Bool.and_false] at h; cases h) fun _ => ?_
      · refine t_and (by walk_at "e") fun h => ?_
        have hi0 := of_decide_eq_true h
        obtain ⟨q, hq, a2⟩ := at_pr (xs := L) (k := 0 + (i : Nat) - 1) (by omega) (by omega)
        have lt : ltS q.1 p.1 = true := by
          obtain ⟨h1, e1⟩ := List.getElem?_eq_some_iff.mp hp
          obtain ⟨h2, e2⟩ := List.getElem?_eq_some_iff.mp hq
          have := List.pairwise_iff_getElem.mp ag.srt _ _ h2 h1 (by omega)
          rw [e1, e2] at this; exact this
        have e : false = !decide (q.1.cps.toList < p.1.cps.toList) := by unfold ltS at lt; rw [lt]; rfl
        rw [e]
        have b1 : atI [PyData.str q.1, PyData.str q.2] 0 = some (.str q.1) := rfl
        have b2 : atI [PyData.str p.1, PyData.str p.2] 0 = some (.str p.1) := rfl
        walk_at "e"
      · exact s_next (n_end1 (.keep rfl (.keep rfl (.keep rfl (.drop (.keep rfl (.keep rfl .nil)))))))
  -- what is due
  have ed : ((sortS ((mD M).map (·.1))).map PyData.str).filterMap (fD M) = (L.map prD) := by
    rw [fD_map, keys_mD]
    exact congrArg (List.map prD) ag.due
  refine q_asgL (ds := L.map prD) (ed ▸ el_lc (ix := [5]) (fD M) (fun d => [.fz (lbD L), .fz (sL ns), .fk (mD M), .un, .un, .fz d]) (it_al (EL.e (so_dict rfl (by rw [List.length_map]; omega)))) (by rw [List.length_map, (sortS_perm _).length_eq, List.length_map, List.length_map]; omega) (fun F1 d hd => g_name) (by decide) (fun F1 d hd => ?_) fun F1 d hd y hy => ?_) ?_
  · obtain ⟨n, hn, rfl⟩ := List.mem_map.mp hd
    have hn2 := (sortS_perm _).mem_iff.mp hn
    rw [keys_mD] at hn2
    obtain ⟨v, hv⟩ := gt_mem hn2
    have gk : getK (mD M) n = some (.str v) := by rw [getK_mD, hv]; rfl
    have e : (fD M (.str n)).isSome = !decide (v = "") := by
      show ((fDue M n).map prD).isSome = _
      unfold fDue
      rw [hv]
      by_cases e : v = ""
      · rw [decide_eq_true e]; show ((if v = "" then _ else _ : Option (Str × Str)).map prD).isSome = _; rw [if_pos e]; rfl
      · rw [decide_eq_false e]; show ((if v = "" then _ else _ : Option (Str × Str)).map prD).isSome = _; rw [if_neg e]; rfl
    rw [e]
    exact t_test (b_op (E.b (e_dget rfl (e_var rfl) gk)) (E.b e_str) ne_s rfl)
  · obtain ⟨n, hn, rfl⟩ := List.mem_map.mp hd
    have hn2 := (sortS_perm _).mem_iff.mp hn
    rw [keys_mD] at hn2
    obtain ⟨v, hv⟩ := gt_mem hn2
    have gk : getK (mD M) n = some (.str v) := by rw [getK_mD, hv]; rfl
    have ey : y = prD (n, v) := by
      have hy' : (fDue M n).map prD = some y := hy
      unfold fDue at hy'
      rw [hv] at hy'
      by_cases e : v = ""
      · have h3 : ((if v = "" then none else some (n, v) : Option (Str × Str)).map prD) = some y := hy'
        rw [if_pos e] at h3; cases h3
      · have h3 : ((if v = "" then none else some (n, v) : Option (Str × Str)).map prD) = some y := hy'
        rw [if_neg e] at h3; cases h3; rfl
    rw [ey]
    exact e_tup (a_cons (e_var rfl) (a_cons (e_dget rfl (e_var rfl) gk) a_nil)) (Nat.le_of_ble_eq_true rfl)
  have sh := prs_shaped ag.ok
  have er : PyData.eqv (.list (L.map prD)) (.list (L.map prD)) = true := prs_refl L
  refine q_if (b := !PyData.eqv (.list (L.map prD)) (.list (L.map prD))) (t_test (b_op (EL.b (lw_tup (e_var rfl))) (b_ow rfl) (ned sh sh) rfl)) (fun h => by rw [er] at h; cases h) fun _ => ?_
  refine s_next (n_go ?_)
  refine q_for1 (fun i => [.fz (lbD L), .fz (sL ns), .fk (mD M), .un, .un, .un]) (it_al (e_var rfl)) (.keep rfl (.keep rfl (.keep rfl (.drop (.drop (.drop .nil)))))) (fun F1 i d hd => ?_) ?_
  · obtain ⟨n, hn, rfl⟩ := map_get hd
    have hn2 := List.mem_of_getElem? hn
    refine ⟨_, _, g_name, ?_⟩
    have eg : (getK (mD M) n).getD (.str "") = .str ((gtS M n).getD "") := by rw [getK_mD]; cases gtS M n <;> rfl
    refine s_if (b := !decide (valD L n = (gtS M n).getD "")) (t_test (b_op (E.b (e_call (d := .str (valD L n)) (by walk_at "e") ⟨L, n, rfl, rfl⟩)) (E.b (eg ▸ e_dget2 rfl (e_var rfl) e_str)) ne_s rfl)) (fun h => ?_) fun _ => ?_
    · rw [ag.val n hn2, decide_eq_true rfl] at h; cases h
    · exact s_next (n_end1 (.keep rfl (.keep rfl (.keep rfl (.drop (.drop (.drop .nil)))))))
  · exact s_ret (by walk_at "e") rt
end

/-! ### what holds all along -/
theorem valD_mem : ∀ {L : List (Str × Str)} {p : Str × Str}, (L.map (·.1)).Nodup → p ∈ L → valD L p.1 = p.2
  | [], _, _, h => by cases h
  | q :: L, p, nd, h => by
    rw [List.map_cons, List.nodup_cons] at nd
    rw [valD]
    rcases List.mem_cons.mp h with rfl | h
    · rw [if_pos rfl]
    · rw [if_neg fun e => nd.1 (by rw [e]; exact List.mem_map_of_mem h)]
      exact valD_mem nd.2 h
theorem valD_of : ∀ {L : List (Str × Str)} {n : Str}, valD L n ≠ "" → (n, valD L n) ∈ L
  | [], _, h => absurd rfl h
  | q :: L, n, h => by
    rw [valD] at h ⊢
    by_cases e : q.1 = n
    · rw [if_pos e]
      have : (n, q.2) = q := by rw [← e]
      rw [this]; exact List.mem_cons_self
    · rw [if_neg e] at h ⊢
      exact List.mem_cons_of_mem _ (valD_of h)
theorem valD_no {n : Str} : ∀ {L : List (Str × Str)}, n ∉ L.map (·.1) → valD L n = ""
  | [], _ => rfl
  | q :: L, h => by
    rw [List.map_cons] at h
    rw [valD, if_neg fun e => h (by rw [e]; exact List.mem_cons_self)]
    exact valD_no fun z => h (List.mem_cons_of_mem _ z)
/-- two lists of the same pairs -/
theorem valD_same {L M : List (Str × Str)} (h1 : (L.map (·.1)).Nodup) (h2 : (M.map (·.1)).Nodup) (e : ∀ p, p ∈ L ↔ p ∈ M) (n : Str) : valD L n = valD M n := by
  by_cases h : n ∈ L.map (·.1)
  · obtain ⟨p, hp, rfl⟩ := List.mem_map.mp h
    rw [valD_mem h1 hp, valD_mem h2 ((e p).mp hp)]
  · rw [valD_no h, valD_no]
    intro z
    obtain ⟨p, hp, rfl⟩ := List.mem_map.mp z
    exact h (List.mem_map_of_mem ((e p).mpr hp))
theorem valD_filter (q : Str → Bool) (n : Str) : ∀ (L : List (Str × Str)), valD (L.filter fun p => q p.1) n = if q n = true then valD L n else ""
  | [] => by split <;> rfl
  | p :: L => by
    have ih := valD_filter q n L
    rw [List.filter_cons]
    by_cases h : q p.1 = true
    · rw [if_pos h, valD, valD, ih]
      by_cases e : p.1 = n
      · rw [if_pos e, if_pos e, ← e, if_pos h]
      · rw [if_neg e, if_neg e]
    · rw [if_neg h, ih, valD]
      by_cases e : p.1 = n
      · rw [if_pos e, ← e, if_neg h, if_neg h]
      · rw [if_neg e]
theorem valD_app {n m v : Str} : ∀ (L : List (Str × Str)), valD (L ++ [(n, v)]) m = if m ∈ L.map (·.1) then valD L m else if n = m then v else ""
  | [] => rfl
  | p :: L => by
    have ih := valD_app (n := n) (m := m) (v := v) L
    rw [List.cons_append, valD, valD, ih]
    by_cases e : p.1 = m
    · rw [if_pos e, if_pos e, if_pos (by rw [List.map_cons, e]; exact List.mem_cons_self)]
    · rw [if_neg e, if_neg e]
      by_cases h : m ∈ L.map (·.1)
      · rw [if_pos h, if_pos (by rw [List.map_cons]; exact List.mem_cons_of_mem _ h)]
      · have h5 : m ∉ (p :: L).map (·.1) := by
          rw [List.map_cons]; intro z
          rcases List.mem_cons.mp z with z | z
          · exact e z.symm
          · exact h z
        rw [if_neg h, if_neg h5]
/-! keys put -/
theorem gt_map {n m v : Str} : ∀ (M : List (Str × Str)), gtS (M.map fun p => if p.1 = n then (p.1, v) else p) m = if m = n then (gtS M m).map (fun _ => v) else gtS M m
  | [] => by split <;> rfl
  | p :: M => by
    have ih := gt_map (n := n) (m := m) (v := v) M
    unfold gtS at ih ⊢
    rw [List.map_cons, List.find?_cons, List.find?_cons]
    have e1 : (if p.1 = n then (p.1, v) else p).1 = p.1 := by split <;> rfl
    rw [e1]
    by_cases h : p.1 = m
    · rw [decide_eq_true h]
      by_cases h2 : m = n
      · rw [if_pos h2, if_pos (h.trans h2)]; rfl
      · rw [if_neg h2, if_neg fun z => h2 (h.symm.trans z)]
    · rw [decide_eq_false h]; exact ih
theorem gt_none {n : Str} : ∀ {M : List (Str × Str)}, n ∉ M.map (·.1) → gtS M n = none
  | [], _ => rfl
  | p :: M, h => by
    unfold gtS
    rw [List.map_cons] at h
    rw [List.find?_cons, decide_eq_false fun e => h (by rw [e]; exact List.mem_cons_self)]
    exact gt_none fun z => h (List.mem_cons_of_mem _ z)
theorem gt_app {n m v : Str} : ∀ (M : List (Str × Str)), gtS (M ++ [(n, v)]) m = if m ∈ M.map (·.1) then gtS M m else if n = m then some v else none
  | [] => by
    unfold gtS
    rw [List.nil_append, List.find?_cons, if_neg (by intro h; cases h)]
    by_cases e : n = m
    · rw [decide_eq_true e, if_pos e]; rfl
    · rw [decide_eq_false e, if_neg e]; rfl
  | p :: M => by
    have ih := gt_app (n := n) (m := m) (v := v) M
    unfold gtS at ih ⊢
    rw [List.cons_append, List.find?_cons, List.find?_cons]
    by_cases e : p.1 = m
    · rw [decide_eq_true e, if_pos (by rw [List.map_cons, e]; exact List.mem_cons_self)]
    · rw [decide_eq_false e]
      show Option.map _ (List.find? _ (M ++ [(n, v)])) = _
      rw [ih]
      by_cases h : m ∈ M.map (·.1)
      · rw [if_pos h, if_pos (by rw [List.map_cons]; exact List.mem_cons_of_mem _ h)]
      · have h5 : m ∉ (p :: M).map (·.1) := by
          rw [List.map_cons]; intro z
          rcases List.mem_cons.mp z with z | z
          · exact e z.symm
          · exact h z
        rw [if_neg h, if_neg h5]
theorem any_mem {n : Str} {M : List (Str × Str)} : (M.any fun p => decide (p.1 = n)) = true ↔ n ∈ M.map (·.1) := by
  rw [List.any_eq_true, List.mem_map]
  constructor
  · rintro ⟨p, h1, h2⟩; exact ⟨p, h1, of_decide_eq_true h2⟩
  · rintro ⟨p, h1, h2⟩; exact ⟨p, h1, decide_eq_true h2⟩
theorem gt_put {n m v : Str} {M : List (Str × Str)} : gtS (ptS M n v) m = if m = n then some v else gtS M m := by
  unfold ptS
  by_cases h : (M.any fun p => decide (p.1 = n)) = true
  · rw [if_pos h, gt_map]
    by_cases e : m = n
    · rw [if_pos e, if_pos e]
      obtain ⟨u, hu⟩ := gt_mem (any_mem.mp h)
      rw [e, hu]; rfl
    · rw [if_neg e, if_neg e]
  · rw [if_neg h, gt_app]
    have hn : n ∉ M.map (·.1) := fun z => h (any_mem.mpr z)
    by_cases e : m = n
    · rw [if_pos e, if_neg (by rw [e]; exact hn), if_pos e.symm]
    · rw [if_neg e]
      by_cases h2 : m ∈ M.map (·.1)
      · rw [if_pos h2]
      · rw [if_neg h2, if_neg fun z => e z.symm, gt_none h2]
theorem keys_put {n v : Str} {M : List (Str × Str)} : (ptS M n v).map (·.1) = if n ∈ M.map (·.1) then M.map (·.1) else M.map (·.1) ++ [n] := by
  unfold ptS
  by_cases h : (M.any fun p => decide (p.1 = n)) = true
  · rw [if_pos h, if_pos (any_mem.mp h), List.map_map]
    refine List.map_congr_left fun p _ => ?_
    show (if p.1 = n then (p.1, v) else p).1 = p.1
    split <;> rfl
  · rw [if_neg h, if_neg fun z => h (any_mem.mpr z), List.map_append]; rfl
theorem mem_put {n v : Str} {M : List (Str × Str)} {p : Str × Str} (h : p ∈ ptS M n v) : p ∈ M ∨ p = (n, v) := by
  unfold ptS at h
  split at h
  · obtain ⟨q, hq, rfl⟩ := List.mem_map.mp h
    by_cases e : q.1 = n
    · rw [if_pos e]; right; rw [e]
    · rw [if_neg e]; left; exact hq
  · rcases List.mem_append.mp h with h | h
    · exact .inl h
    · exact .inr (List.mem_singleton.mp h)
theorem gt_in {n v : Str} : ∀ {M : List (Str × Str)}, gtS M n = some v → (n, v) ∈ M
  | [], h => by cases h
  | p :: M, h => by
    unfold gtS at h
    rw [List.find?_cons] at h
    by_cases e : p.1 = n
    · rw [decide_eq_true e] at h
      have h' : some p.2 = some v := h
      cases h'
      have : (n, p.2) = p := by rw [← e]
      rw [this]; exact List.mem_cons_self
    · rw [decide_eq_false e] at h
      exact List.mem_cons_of_mem _ (gt_in h)
structure KOk (ns : List Str) (M : List (Str × Str)) : Prop where
  nd : (M.map (·.1)).Nodup
  key : ∀ n ∈ M.map (·.1), n ∈ ns
  ok : ∀ p ∈ M, okS p
theorem KOk.put {ns : List Str} {M : List (Str × Str)} {n v : Str} (h : KOk ns M) (hn : n ∈ ns) (ho : okS (n, v)) : KOk ns (ptS M n v) := by
  refine ⟨?_, fun m hm => ?_, fun p hp => ?_⟩
  · rw [keys_put]
    split
    · exact h.nd
    · rename_i hh
      rw [List.nodup_append]
      exact ⟨h.nd, List.nodup_cons.mpr ⟨fun z => (by cases z), List.nodup_nil⟩, fun a ha b hb e => hh (by rw [← List.mem_singleton.mp hb, ← e]; exact ha)⟩
  · rw [keys_put] at hm
    split at hm
    · exact h.key m hm
    · rcases List.mem_append.mp hm with hm | hm
      · exact h.key m hm
      · rw [List.mem_singleton.mp hm]; exact hn
  · rcases mem_put hp with hp | rfl
    · exact h.ok p hp
    · exact ho
structure Iv1 (ns : List Str) (L M : List (Str × Str)) : Prop where
  srt : L.Pairwise fun p q => ltS p.1 q.1 = true
  ne : ∀ p ∈ L, p.2 ≠ ""
  val : ∀ n, valD L n = (gtS M n).getD ""
  kok : KOk ns M
theorem srt_nd {L : List (Str × Str)} (h : L.Pairwise fun p q => ltS p.1 q.1 = true) : (L.map (·.1)).Nodup := by
  rw [List.Nodup, List.pairwise_map]
  exact h.imp fun {a b} hh e => by rw [e, ltS_irr] at hh; cases hh
theorem due_mem {M : List (Str × Str)} {p : Str × Str} : p ∈ dueF M ↔ gtS M p.1 = some p.2 ∧ p.2 ≠ "" := by
  unfold dueF
  rw [List.mem_filterMap]
  constructor
  · rintro ⟨n, _, h⟩
    unfold fDue at h
    cases e : gtS M n with
    | none => rw [e] at h; cases h
    | some v =>
      rw [e] at h
      by_cases hv : v = ""
      · have h' : (if v = "" then none else some (n, v)) = some p := h
        rw [if_pos hv] at h'; cases h'
      · have h' : (if v = "" then none else some (n, v)) = some p := h
        rw [if_neg hv] at h'; cases h'
        exact ⟨e, hv⟩
  · rintro ⟨h1, h2⟩
    refine ⟨p.1, (sortS_perm _).mem_iff.mpr ?_, ?_⟩
    · have := gt_in h1
      exact List.mem_map_of_mem this
    · unfold fDue
      rw [h1]
      show (if p.2 = "" then none else some (p.1, p.2)) = some p
      rw [if_neg h2]
theorem le_lt {x y : Str} (h : leS x y = true) (ne : x ≠ y) : ltS x y = true := by
  cases e : ltS x y with
  | true => rfl
  | false => unfold leS at h; exact absurd (ltS_tot e (by simpa using h)) ne
theorem sortS_lt {ks : List Str} (nd : ks.Nodup) : (sortS ks).Pairwise fun x y => ltS x y = true := by
  have nd2 : (sortS ks).Nodup := (sortS_perm ks).nodup_iff.mpr nd
  exact List.Pairwise.imp₂ (fun {a b} h1 h2 => le_lt h1 h2) (sortS_sorted ks) nd2
theorem due_srt {M : List (Str × Str)} (nd : (M.map (·.1)).Nodup) : (dueF M).Pairwise fun p q => ltS p.1 q.1 = true := by
  unfold dueF
  rw [List.pairwise_filterMap]
  refine (sortS_lt nd).imp fun {a b} h p hp q hq => ?_
  have one : ∀ {n : Str} {p : Str × Str}, fDue M n = some p → p.1 = n := fun {n p} h => by
    unfold fDue at h
    cases e : gtS M n with
    | none => rw [e] at h; cases h
    | some v =>
      rw [e] at h
      have h' : (if v = "" then none else some (n, v)) = some p := h
      by_cases hv : v = ""
      · rw [if_pos hv] at h'; cases h'
      · rw [if_neg hv] at h'; cases h'; rfl
  rw [one hp, one hq]; exact h
theorem srt_eq {L M : List (Str × Str)} (h1 : L.Pairwise fun p q => ltS p.1 q.1 = true) (h2 : M.Pairwise fun p q => ltS p.1 q.1 = true) (e : ∀ p, p ∈ L ↔ p ∈ M) : L = M := by
  have irr : ∀ {L : List (Str × Str)}, L.Pairwise (fun p q => ltS p.1 q.1 = true) → L.Nodup := fun h => h.imp fun {a b} hh e => by rw [e, ltS_irr] at hh; cases hh
  refine sorted_uniq (R := fun p q => ltS p.1 q.1 = true) ((List.perm_ext_iff_of_nodup (irr h1) (irr h2)).mpr e) (fun a _ b _ h3 h4 => ?_) h1 h2
  have := ltS_trans h3 h4
  rw [ltS_irr] at this; cases this
theorem Iv1.agr {ns : List Str} {L M : List (Str × Str)} (h : Iv1 ns L M) (hz : ns.length ≤ 63) : Agr L ns M := by
  have nd := srt_nd h.srt
  have mem : ∀ p, p ∈ L → gtS M p.1 = some p.2 := fun p hp => by
    have e := h.val p.1
    rw [valD_mem nd hp] at e
    cases q : gtS M p.1 with
    | none => rw [q] at e; exact absurd e (h.ne p hp)
    | some v => rw [q] at e; rw [show v = p.2 from e.symm]
  have inM : ∀ p, p ∈ L → p ∈ M := fun p hp => gt_in (mem p hp)
  refine ⟨h.srt, srt_eq (due_srt h.kok.nd) h.srt fun p => ⟨fun hp => ?_, fun hp => due_mem.mpr ⟨mem p hp, h.ne p hp⟩⟩, fun n _ => h.val n, fun p hp => h.kok.ok p (inM p hp), ?_, ?_⟩
  · obtain ⟨h1, h2⟩ := due_mem.mp hp
    have e := h.val p.1
    rw [h1] at e
    have e' : valD L p.1 = p.2 := e
    have := valD_of (L := L) (n := p.1) (by rw [e']; exact h2)
    rw [e'] at this; exact this
  · have := nd.length_le_of_subset (l₂ := ns) fun n hn => by
      obtain ⟨p, hp, rfl⟩ := List.mem_map.mp hn
      exact h.kok.key p.1 (List.mem_map_of_mem (inM p hp))
    rw [List.length_map] at this; omega
  · have := h.kok.nd.length_le_of_subset (l₂ := ns) h.kok.key
    rw [List.length_map] at this; omega
/-! the steps -/
theorem no_srt {L : List (Str × Str)} (h : L.Pairwise fun p q => ltS p.1 q.1 = true) (q : Str × Str → Bool) : (L.filter q).Pairwise fun p q => ltS p.1 q.1 = true := h.sublist List.filter_sublist
theorem lex_fst {p q : Str × Str} (h : leD (prD p) (prD q) = true) (ne : p.1 ≠ q.1) : ltS p.1 q.1 = true := by
  cases e : ltS p.1 q.1 with
  | true => rfl
  | false =>
    cases e2 : ltS q.1 p.1 with
    | false => exact absurd (ltS_tot e e2) ne
    | true =>
      unfold leD at h
      have : PyProof.Rows.lexLt itemOrd (keyD (prD q)) (keyD (prD p)) = true := by
        show PyProof.Rows.lexLt itemOrd (Sum.inr q.1.cps.toList :: _) (Sum.inr p.1.cps.toList :: _) = true
        rw [PyProof.Rows.lexLt.eq_4]
        have e3 : itemOrd.blt (Sum.inr q.1.cps.toList) (Sum.inr p.1.cps.toList) = true := e2
        rw [e3]; rfl
      rw [this] at h; cases h
theorem sortP_srt {L : List (Str × Str)} (nd : (L.map (·.1)).Nodup) : (sortP L).Pairwise fun p q => ltS p.1 q.1 = true := by
  have nd2 : ((sortP L).map (·.1)).Nodup := ((sortP_perm L).map (·.1)).nodup_iff.mpr nd
  rw [List.Nodup, List.pairwise_map] at nd2
  exact List.Pairwise.imp₂ (fun {a b} h1 h2 => lex_fst h1 h2) (sortP_sorted L) nd2
theorem wi_nd {L : List (Str × Str)} {n v : Str} (nd : (L.map (·.1)).Nodup) : ((wiD L n v).map (·.1)).Nodup := by
  have h1 : ((noD L [n]).map (·.1)).Nodup := nd.sublist (List.filter_sublist.map _)
  unfold wiD
  split
  · rw [List.append_nil]; exact h1
  · rw [List.map_append, List.nodup_append]
    refine ⟨h1, List.nodup_cons.mpr ⟨fun z => (by cases z), List.nodup_nil⟩, fun a ha b hb e => ?_⟩
    obtain ⟨p, hp, rfl⟩ := List.mem_map.mp ha
    have hb' : b = n := List.mem_singleton.mp hb
    have := (List.mem_filter.mp hp).2
    rw [e, hb', decide_eq_true List.mem_cons_self] at this
    cases this
theorem wi_val {L : List (Str × Str)} {n v m : Str} : valD (wiD L n v) m = if m = n then v else valD L m := by
  have h1 : ∀ k, valD (noD L [n]) k = if (!decide (k ∈ [n])) = true then valD L k else "" := fun k => valD_filter (fun a => !decide (a ∈ [n])) k L
  have h2 : n ∉ (noD L [n]).map (·.1) := fun z => by
    obtain ⟨p, hp, e⟩ := List.mem_map.mp z
    have := (List.mem_filter.mp hp).2
    rw [e, decide_eq_true List.mem_cons_self] at this
    cases this
  have h3 : valD (noD L [n]) m = if m = n then ("" : Str) else valD L m := by
    rw [h1]
    by_cases e : m = n
    · rw [if_pos e, if_neg (by rw [e, decide_eq_true List.mem_cons_self]; decide)]
    · rw [if_neg e, if_pos (by rw [decide_eq_false fun z => e (List.mem_singleton.mp z)]; rfl)]
  unfold wiD
  by_cases hv : v = ""
  · rw [if_pos hv, List.append_nil, h3, hv]
  · rw [if_neg hv, valD_app]
    by_cases e : m = n
    · rw [if_pos e, if_neg (by rw [e]; exact h2), if_pos e.symm]
    · rw [if_neg e]
      by_cases h4 : m ∈ (noD L [n]).map (·.1)
      · rw [if_pos h4, h3, if_neg e]
      · rw [if_neg h4, if_neg fun z => e z.symm]
        rw [valD_no h4, if_neg e] at h3
        exact h3
theorem Iv1.wi {ns : List Str} {L M : List (Str × Str)} {n v : Str} (h : Iv1 ns L M) (hn : n ∈ ns) (ho : okS (n, v)) : Iv1 ns (sortP (wiD L n v)) (ptS M n v) := by
  have nd := srt_nd h.srt
  have nd2 := wi_nd (n := n) (v := v) nd
  refine ⟨sortP_srt nd2, fun p hp => ?_, fun m => ?_, h.kok.put hn ho⟩
  · have hp' := (sortP_perm _).mem_iff.mp hp
    unfold wiD at hp'
    rcases List.mem_append.mp hp' with hp' | hp'
    · exact h.ne p (List.mem_filter.mp hp').1
    · split at hp'
      · cases hp'
      · rename_i hv
        rw [List.mem_singleton.mp hp']; exact hv
  · rw [valD_same (((sortP_perm _).map (·.1)).nodup_iff.mpr nd2) nd2 (fun p => (sortP_perm _).mem_iff), wi_val, gt_put]
    by_cases e : m = n
    · rw [if_pos e, if_pos e]; rfl
    · rw [if_neg e, if_neg e, h.val]
/-- some names emptied -/
def pf (q : Str → Bool) (M : List (Str × Str)) (l : List Str) : List (Str × Str) := l.foldl (fun M n => if q n = true then ptS M n "" else M) M
theorem pf_snoc (q : Str → Bool) (M : List (Str × Str)) (l : List Str) (n : Str) : pf q M (l ++ [n]) = if q n = true then ptS (pf q M l) n "" else pf q M l := by
  unfold pf; rw [List.foldl_append]; rfl
theorem pf_take {q : Str → Bool} {M : List (Str × Str)} {l : List Str} {i : Nat} {n : Str} (h : l[i]? = some n) : pf q M (l.take (i + 1)) = if q n = true then ptS (pf q M (l.take i)) n "" else pf q M (l.take i) := by
  rw [List.take_add_one, h]; exact pf_snoc q M _ n
theorem pf_gt (q : Str → Bool) (m : Str) : ∀ (l : List Str) (M : List (Str × Str)), gtS (pf q M l) m = if m ∈ l ∧ q m = true then some ("" : Str) else gtS M m
  | [], M => by rw [if_neg fun z => (by cases z.1)]; rfl
  | n :: l, M => by
    show gtS (pf q (if q n = true then ptS M n "" else M) l) m = _
    rw [pf_gt q m l]
    by_cases h : m ∈ l ∧ q m = true
    · rw [if_pos h, if_pos ⟨List.mem_cons_of_mem _ h.1, h.2⟩]
    · rw [if_neg h]
      by_cases e : m = n
      · subst e
        by_cases hq : q m = true
        · rw [if_pos hq, gt_put, if_pos rfl, if_pos ⟨List.mem_cons_self, hq⟩]
        · rw [if_neg hq, if_neg fun z => hq z.2]
      · rw [if_neg (show ¬ (m ∈ n :: l ∧ q m = true) from fun z => h ⟨(List.mem_cons.mp z.1).resolve_left e, z.2⟩)]
        by_cases hq : q n = true
        · rw [if_pos hq, gt_put, if_neg e]
        · rw [if_neg hq]
theorem pf_kok {ns : List Str} {q : Str → Bool} : ∀ {l : List Str} {M : List (Str × Str)}, KOk ns M → (∀ n ∈ l, n ∈ ns ∧ okS (n, "")) → KOk ns (pf q M l)
  | [], _, h, _ => h
  | n :: l, M, h, hl => by
    show KOk ns (pf q (if q n = true then ptS M n "" else M) l)
    refine pf_kok ?_ fun m hm => hl m (List.mem_cons_of_mem _ hm)
    split
    · exact h.put (hl n List.mem_cons_self).1 (hl n List.mem_cons_self).2
    · exact h
theorem Iv1.no {ns : List Str} {L M : List (Str × Str)} {l : List Str} (h : Iv1 ns L M) (hl : ∀ n ∈ l, n ∈ ns ∧ okS (n, "")) : Iv1 ns (noD L l) (pf (fun _ => true) M l) := by
  refine ⟨no_srt h.srt _, fun p hp => h.ne p (List.mem_filter.mp hp).1, fun m => ?_, pf_kok h.kok hl⟩
  rw [pf_gt]
  have := valD_filter (fun a => !decide (a ∈ l)) m L
  unfold noD
  rw [this]
  by_cases e : m ∈ l
  · rw [if_neg (show ¬ (!decide (m ∈ l)) = true by rw [decide_eq_true e]; decide), if_pos (show m ∈ l ∧ true = true from ⟨e, rfl⟩)]; rfl
  · rw [if_pos (show (!decide (m ∈ l)) = true by rw [decide_eq_false e]; rfl), if_neg (show ¬ (m ∈ l ∧ true = true) from fun z => e z.1), h.val]
theorem Iv1.on {ns : List Str} {L M : List (Str × Str)} {l : List Str} (h : Iv1 ns L M) (hk : ∀ n ∈ M.map (·.1), okS (n, "")) : Iv1 ns (onD L l) (pf (fun n => !decide (n ∈ l)) M (M.map (·.1))) := by
  refine ⟨no_srt h.srt _, fun p hp => h.ne p (List.mem_filter.mp hp).1, fun m => ?_, pf_kok h.kok fun n hn => ⟨h.kok.key n hn, hk n hn⟩⟩
  rw [pf_gt]
  have := valD_filter (fun a => decide (a ∈ l)) m L
  unfold onD
  rw [this]
  by_cases e : m ∈ l
  · rw [if_pos (show decide (m ∈ l) = true from decide_eq_true e), if_neg (show ¬ (m ∈ M.map (·.1) ∧ (!decide (m ∈ l)) = true) by rw [decide_eq_true e]; exact fun z => by cases z.2), h.val]
  · rw [if_neg (show ¬ decide (m ∈ l) = true by rw [decide_eq_false e]; decide)]
    by_cases hm : m ∈ M.map (·.1)
    · rw [if_pos (show m ∈ M.map (·.1) ∧ (!decide (m ∈ l)) = true from ⟨hm, by rw [decide_eq_false e]; rfl⟩)]; rfl
    · rw [if_neg (show ¬ (m ∈ M.map (·.1) ∧ (!decide (m ∈ l)) = true) from fun z => hm z.1), gt_none hm]; rfl
theorem val_gt (n : Str) : ∀ (L : List (Str × Str)), valD L n = (gtS L n).getD ""
  | [] => rfl
  | p :: L => by
    have ih := val_gt n L
    unfold gtS at ih ⊢
    rw [valD, List.find?_cons]
    by_cases e : p.1 = n
    · rw [if_pos e, decide_eq_true e]; rfl
    · rw [if_neg e, decide_eq_false e]; exact ih
theorem put_new {M : List (Str × Str)} {n v : Str} (h : n ∉ M.map (·.1)) : ptS M n v = M ++ [(n, v)] := by
  unfold ptS; rw [if_neg fun z => h (any_mem.mp z)]
theorem put_take {L : List (Str × Str)} (nd : (L.map (·.1)).Nodup) {i : Nat} {p : Str × Str} (h : L[i]? = some p) : ptS (L.take i) p.1 p.2 = L.take (i + 1) := by
  have e : L.take (i + 1) = L.take i ++ [p] := by rw [List.take_add_one, h]; rfl
  rw [e]
  refine put_new fun z => ?_
  have nd2 : ((L.take (i + 1)).map (·.1)).Nodup := nd.sublist ((List.take_sublist _ _).map _)
  rw [e, List.map_append, List.nodup_append] at nd2
  exact nd2.2.2 p.1 z p.1 (by exact List.mem_singleton.mpr rfl) rfl
/-! the first labels -/
theorem itS_in {xs : List Str} {z : Int} (h : 0 < xs.length) : itS xs (z % xs.length) ∈ xs := itS_mem (md z xs.length (by omega)).1 (md z xs.length (by omega)).2
theorem lbs_nd (D : List Int) (ns ws : List Str) : ∀ i, ((lbs D ns ws i).map (·.1)).Nodup
  | 0 => List.nodup_nil
  | i + 1 => by
    have ih := lbs_nd D ns ws i
    unfold lbs
    split
    · exact ih
    · rename_i h
      rw [List.map_append, List.nodup_append]
      refine ⟨ih, List.nodup_cons.mpr ⟨fun z => (by cases z), List.nodup_nil⟩, fun a ha b hb e => ?_⟩
      have hb' : b = itS ns (itI D (0 + (i : Nat) * 2) % ns.length) := List.mem_singleton.mp hb
      exact h (by rw [← hb', ← e]; exact ha)
theorem lbs_mem {D : List Int} {ns ws : List Str} (hn : 0 < ns.length) (hw : 0 < ws.length) : ∀ (i : Nat) (p : Str × Str), p ∈ lbs D ns ws i → p.1 ∈ ns ∧ p.2 ∈ ws
  | 0, _, h => by cases h
  | i + 1, p, h => by
    unfold lbs at h
    split at h
    · exact lbs_mem hn hw i p h
    · rcases List.mem_append.mp h with h | h
      · exact lbs_mem hn hw i p h
      · have e1 : p.1 = itS ns (itI D (0 + (i : Nat) * 2) % ns.length) := congrArg Prod.fst (List.mem_singleton.mp h)
        have e2 : p.2 = itS ws (itI D (0 + (i : Nat) * 2 + 1) % ws.length) := congrArg Prod.snd (List.mem_singleton.mp h)
        rw [e1, e2]; exact ⟨itS_in hn, itS_in hw⟩
theorem iv_first {ns ws : List Str} {L : List (Str × Str)} (nd : (L.map (·.1)).Nodup) (hm : ∀ p ∈ L, p.1 ∈ ns ∧ p.2 ∈ ws) (hns : ∀ n ∈ ns, PyData.strOk n = true) (hws : ∀ v ∈ ws, PyData.strOk v = true ∧ v ≠ "") : Iv1 ns (sortP L) (sortP L) := by
  have nd2 := ((sortP_perm L).map (·.1)).nodup_iff.mpr nd
  have mem : ∀ p ∈ sortP L, p.1 ∈ ns ∧ p.2 ∈ ws := fun p hp => hm p ((sortP_perm _).mem_iff.mp hp)
  refine ⟨sortP_srt nd, fun p hp => (hws _ (mem p hp).2).2, fun n => val_gt n _, nd2, fun n hn => ?_, fun p hp => ⟨hns _ (mem p hp).1, (hws _ (mem p hp).2).1⟩⟩
  obtain ⟨p, hp, rfl⟩ := List.mem_map.mp hn
  exact (mem p hp).1
/-! texts -/
theorem ok_app {a b : Str} (ha : PyData.strOk a = true) (hb : PyData.strOk b = true) : PyData.strOk (a ++ b) = true := by
  show ((a.cps ++ b.cps).all fun x => decide (x < 1114112)) = true
  unfold PyData.strOk at ha hb
  rw [Array.all_append, ha, hb]; rfl
theorem one_all {c : Nat} (h : c < 1114112) : ((#[c] : Array Nat).all fun x => decide (x < 1114112)) = true := by simp [h]
theorem cp1 (k : Nat) : LT1.cps.toList.getD k 0 < 1114112 := by
  have h : ∀ c ∈ LT1.cps.toList, c < 1114112 := by decide +kernel
  rw [List.getD_eq_getElem?_getD]
  cases e : LT1.cps.toList[k]? with
  | none => decide
  | some c => exact h c (List.mem_of_getElem? e)
theorem cp2 (k : Nat) : LT2.cps.toList.getD k 0 < 1114112 := by
  have h : ∀ c ∈ LT2.cps.toList, c < 1114112 := by decide +kernel
  rw [List.getD_eq_getElem?_getD]
  cases e : LT2.cps.toList[k]? with
  | none => decide
  | some c => exact h c (List.mem_of_getElem? e)
theorem ok_sg1 (k : Int) : PyData.strOk (sg LT1 k) = true := one_all (cp1 _)
theorem ok_sg2 (k : Int) : PyData.strOk (sg LT2 k) = true := one_all (cp2 _)
theorem ok_mul (c : Nat) (h : c < 1114112) (n : Int) : PyData.strOk (mulS ⟨#[c]⟩ n) = true := by
  have e : ∀ (k : Nat) (a : Array Nat), (a.all fun x => decide (x < 1114112)) = true → (((List.replicate k #[c]).foldl (· ++ ·) a).all fun x => decide (x < 1114112)) = true := by
    intro k
    induction k with
    | zero => intro a ha; exact ha
    | succ k ih =>
      intro a ha
      rw [List.replicate_succ, List.foldl_cons]
      refine ih _ ?_
      rw [Array.all_append, ha, one_all h]; rfl
  have e0 : ((#[] : Array Nat).all fun x => decide (x < 1114112)) = true := by simp
  unfold mulS
  split
  · exact e0
  · split
    · exact one_all h
    · exact e n.toNat #[] e0
theorem ok_nm (a b : Int) : PyData.strOk (nmF a b) = true := by
  have e : ("_" : Str) = ⟨#[95]⟩ := by decide +kernel
  unfold nmF
  split
  · exact ok_sg1 _
  · split
    · exact ok_app (ok_sg1 _) (ok_sg1 _)
    · split
      · exact ok_app (ok_app (ok_app (ok_sg1 _) (ok_sg1 _)) (by rw [e]; exact ok_mul 95 (by decide) 17)) (ok_sg1 _)
      · exact ok_app (ok_app (ok_sg1 _) (ok_sg1 _)) (ok_sg1 _)
theorem ok_wr (a b : Int) : PyData.strOk (wrF a b) = true := by
  unfold wrF
  split
  · exact ok_sg2 _
  · split
    · exact ok_app (ok_mul _ (cp2 _) 19) (ok_sg2 _)
    · exact ok_app (ok_sg2 _) (ok_sg2 _)

/-! ### the law -/
theorem kok_len {ns : List Str} {M : List (Str × Str)} (h : KOk ns M) : M.length ≤ ns.length := by
  have := h.nd.length_le_of_subset (l₂ := ns) h.key
  rwa [List.length_map] at this
theorem iv_len {ns : List Str} {L M : List (Str × Str)} (h : Iv1 ns L M) (hz : ns.length = 7) : L.length ≤ 1000 := by
  have := (h.agr (by omega)).ll; omega
theorem nms_len (c : Int) (m : Nat) : (nmsF c m).length = m := by unfold nmsF; rw [List.length_map, List.length_range]
theorem wrs_len (c : Int) (m : Nat) : (wrsF c m).length = m := by unfold wrsF; rw [List.length_map, List.length_range]
theorem nms_ok {c : Int} {m : Nat} {n : Str} (h : n ∈ nmsF c m) : PyData.strOk n = true := by
  unfold nmsF at h
  obtain ⟨k, _, rfl⟩ := List.mem_map.mp h
  exact ok_nm _ _
theorem len_emp : (("" : Str)).length = 0 := by decide +kernel
theorem wrs_ok {c : Int} {m : Nat} {v : Str} (h : v ∈ wrsF c m) : PyData.strOk v = true ∧ v ≠ "" := by
  unfold wrsF at h
  obtain ⟨k, _, rfl⟩ := List.mem_map.mp h
  refine ⟨ok_wr _ _, fun e => ?_⟩
  have h2 := wr_len (itI (draws c (2 * m)) (2 * (0 + (k : Nat)))) (itI (draws c (2 * m)) (2 * (0 + (k : Nat)) + 1))
  rw [e, len_emp] at h2; omega
theorem ok_emp : PyData.strOk "" = true := by decide +kernel
section
variable {P : Program} {w : World} {K : PySem.W.Frag} {mg : Str → Option Value} {base : Heap} {f : Addr} {fd : FuncData} {Tb : List Addr} {k : Nat}
def R_law : List PyData → PyData → Prop := fun ds d => ∃ (s : List Int), ds = [iL s] ∧ s.length ≤ 63 ∧ d = .bool true
set_option maxHeartbeats 20000000 in
theorem ok_law (Fn : Fun K "law" "law" s_law f fd) (Z : Zb mg)
    (D_l_law_cell : Df P w K mg base 1 "_law_cell" ["script", "k"] (spD K Tb R_cell))
    (D_l_law_draws : Df P w K mg base 1 "_law_draws" ["cell", "many"] (spD K Tb R_draws))
    (D_l_law_names : Df P w K mg base 2 "_law_names" ["cell", "many"] (spD K Tb R_names))
    (D_l_law_worths : Df P w K mg base 2 "_law_worths" ["cell", "many"] (spD K Tb R_worths))
    (D_l_law_labels : Df P w K mg base 1 "_law_labels" ["draws", "names", "worths"] (spD K Tb R_labels))
    (D_l_law_some : Df P w K mg base 1 "_law_some" ["draws", "names"] (spD K Tb R_some))
    (D_l_law_agrees : Df P w K mg base 2 "_law_agrees" ["labels", "names", "known"] (spK K Tb R_agrees))
    (D_with_label : Df P w K mg base 2 "with_label" ["labels", "name", "value"] (spD K Tb R_with))
    (D_without : Df P w K mg base 1 "without" ["labels", "names"] (spD K Tb R_without))
    (D_only : Df P w K mg base 1 "only" ["labels", "names"] (spD K Tb R_only)) :
    FnOk P w K mg base CX0 3 f fd ["script"] (spD K Tb R_law) := by
  refine fn_D Fn sc_law (fun ds d h => by obtain ⟨s, rfl, _⟩ := h; rfl) fun cdv A outer s H Ek hr => ⟨_, (pss_cons (ps_set (i := 1) sc_law.nd rfl (by first | exact .inl rfl | exact .inr rfl) (pe_df D_l_law_names hr (by decide) (by rfl) (pa_cons (pe_df D_l_law_cell hr (by decide) (by rfl) (pa_cons (pv 0) (pa_cons pe_int pa_nil))) (pa_cons pe_int pa_nil))))
      (pss_cons (ps_set (i := 2) sc_law.nd rfl (by first | exact .inl rfl | exact .inr rfl) (pe_df D_l_law_worths hr (by decide) (by rfl) (pa_cons (pe_df D_l_law_cell hr (by decide) (by rfl) (pa_cons (pv 0) (pa_cons pe_int pa_nil))) (pa_cons pe_int pa_nil))))
      (pss_cons (ps_set (i := 3) sc_law.nd rfl (by first | exact .inl rfl | exact .inr rfl) (pe_df D_l_law_labels hr (by decide) (by rfl) (pa_cons (pe_df D_l_law_draws hr (by decide) (by rfl) (pa_cons (pe_df D_l_law_cell hr (by decide) (by rfl) (pa_cons (pv 0) (pa_cons pe_int pa_nil))) (pa_cons pe_int pa_nil))) (pa_cons (pv 1) (pa_cons (pv 2) pa_nil)))))
      (pss_cons (ps_set (i := 4) sc_law.nd rfl (by first | exact .inl rfl | exact .inr rfl) pe_dnewK)
      (pss_cons (ps_for PassesOwn.never rfl (pi_any (pv 3)) (pg_tupK (n := 2) K rfl (pgs_cons (pg_name (i := 5) sc_law.nd rfl (by first | exact .inl rfl | exact .inr rfl)) (pgs_cons (pg_name (i := 6) sc_law.nd rfl (by first | exact .inl rfl | exact .inr rfl)) pgs_nil))) (pss_one (ps_dput (hu_of hr) (pv 4) (pv 5) (pv 6) rfl)))
      (pss_cons (ps_if (pt_not (pt_truthK K (pe_df D_l_law_agrees hr (by decide) (by rfl) (pa_cons (pv 3) (pa_cons (pv 1) (pa_cons (pv 4) pa_nil)))) (by intro _; rfl))) (pss_one (ps_ret pe_bl)) pss_nil)
      (pss_cons (ps_for PassesOwn.never rfl (pi_any (pe_slice (uSlK K) (pv 0) (po_some pe_int) po_none)) (pg_name (i := 7) sc_law.nd rfl (by first | exact .inl rfl | exact .inr rfl)) (pss_cons (ps_set (i := 8) sc_law.nd rfl (by first | exact .inl rfl | exact .inr rfl) (pe_df D_l_law_draws hr (by decide) (by rfl) (pa_cons (pv 7) (pa_cons pe_int pa_nil))))
      (pss_cons (ps_set (i := 9) sc_law.nd rfl (by first | exact .inl rfl | exact .inr rfl) (pv 3))
      (Evl.pss_cut (ps_if (pt_cmpR (uEqK K hr.units) (pe_op op_mod (pe_ix (ix_seqK K) (pv 8) pe_int (fun _ _ => rfl)) pe_int) pe_int (nomark _)) (pss_cons (ps_set (i := 6) sc_law.nd rfl (by first | exact .inl rfl | exact .inr rfl) (pe_ix (ix_seqK K) (pv 2) (pe_op op_mod (pe_ix (ix_seqK K) (pv 8) pe_int (fun _ _ => rfl)) pe_int) (fun _ _ => rfl)))
      (Evl.pss_cut (ps_if (pt_cmpR (uEqK K hr.units) (pe_op op_mod (pe_ix (ix_seqK K) (pv 8) pe_int (fun _ _ => rfl)) pe_int) pe_int (nomark _)) (pss_one (ps_set (i := 6) sc_law.nd rfl (by first | exact .inl rfl | exact .inr rfl) pe_str)) pss_nil)
      (pss_cons (ps_set (i := 3) sc_law.nd rfl (by first | exact .inl rfl | exact .inr rfl) (pe_df D_with_label hr (by decide) (by rfl) (pa_cons (pv 9) (pa_cons (pe_ix (ix_seqK K) (pv 1) (pe_op op_mod (pe_ix (ix_seqK K) (pv 8) pe_int (fun _ _ => rfl)) pe_int) (fun _ _ => rfl)) (pa_cons (pv 6) pa_nil)))))
      (pss_one (ps_dput (hu_of hr) (pv 4) (pe_ix (ix_seqK K) (pv 1) (pe_op op_mod (pe_ix (ix_seqK K) (pv 8) pe_int (fun _ _ => rfl)) pe_int) (fun _ _ => rfl)) (pv 6) rfl))))) (pss_one (ps_if (pt_cmpR (uEqK K hr.units) (pe_op op_mod (pe_ix (ix_seqK K) (pv 8) pe_int (fun _ _ => rfl)) pe_int) pe_int (nomark _)) (pss_cons (ps_set (i := 10) sc_law.nd rfl (by first | exact .inl rfl | exact .inr rfl) (pe_df D_l_law_some hr (by decide) (by rfl) (pa_cons (pe_slice (uSlK K) (pv 8) (po_some pe_int) po_none) (pa_cons (pv 1) pa_nil))))
      (pss_cons (ps_set (i := 3) sc_law.nd rfl (by first | exact .inl rfl | exact .inr rfl) (pe_df D_without hr (by decide) (by rfl) (pa_cons (pv 9) (pa_cons (pe_callTy (uListK K (by rfl)) (by rfl) Z.list (by decide +kernel) (pa_cons (pv 10) pa_nil)) pa_nil))))
      (pss_one (ps_for PassesOwn.never rfl (pi_any (pv 10)) (pg_name (i := 5) sc_law.nd rfl (by first | exact .inl rfl | exact .inr rfl)) (pss_one (ps_dput (hu_of hr) (pv 4) (pv 5) pe_str rfl)))))) (pss_cons (ps_set (i := 10) sc_law.nd rfl (by first | exact .inl rfl | exact .inr rfl) (pe_op (uAddK K) (pe_df D_l_law_some hr (by decide) (by rfl) (pa_cons (pe_slice (uSlK K) (pv 8) (po_some pe_int) po_none) (pa_cons (pv 1) pa_nil))) (pe_slice (uSlK K) (pv 1) po_none (po_some (pe_op op_mod (pe_ix (ix_seqK K) (pv 8) pe_int (fun _ _ => rfl)) pe_int)))))
      (pss_cons (ps_set (i := 3) sc_law.nd rfl (by first | exact .inl rfl | exact .inr rfl) (pe_df D_only hr (by decide) (by rfl) (pa_cons (pv 9) (pa_cons (pe_callTy (uTupK K) (by rfl) Z.tuple (by decide +kernel) (pa_cons (pv 10) pa_nil)) pa_nil))))
      (pss_one (ps_for PassesOwn.never rfl (pi_any (pe_callTy (uListK K (by rfl)) (by rfl) Z.list (by decide +kernel) (pa_cons (pv 4) pa_nil))) (pg_name (i := 5) sc_law.nd rfl (by first | exact .inl rfl | exact .inr rfl)) (pss_one (ps_if (pt_cmpR (uNiK K) (pv 5) (pv 10) (by rfl)) (pss_one (ps_dput (hu_of hr) (pv 4) (pv 5) pe_str rfl)) pss_nil)))))))))
      (pss_one (ps_if (pt_not (pt_truthK K (pe_df D_l_law_agrees hr (by decide) (by rfl) (pa_cons (pv 3) (pa_cons (pv 1) (pa_cons (pv 4) pa_nil)))) (by intro _; rfl))) (pss_one (ps_ret pe_bl)) pss_nil))))))
      (pss_one (ps_ret pe_bl))))))))),  fun ds d F0 H0 Q r rt => ?_⟩
  obtain ⟨s, rfl, hl, rfl⟩ := r
  have hn7 := nms_len (cellF s 0) 7
  have hw5 := wrs_len (cellF s 1) 5
  have hno : ∀ n ∈ nmsF (cellF s 0) 7, PyData.strOk n = true := fun n h => nms_ok h
  have hwo : ∀ v ∈ wrsF (cellF s 1) 5, PyData.strOk v = true ∧ v ≠ "" := fun n h => wrs_ok h
  refine q_asg (d := sL (nmsF (cellF s 0) 7)) (e_call (ds := [.int (cellF s 0), .int 7]) (a_cons (e_call (ds := [iL s, .int 0]) (by walk_at "e") ⟨s, 0, rfl, by decide, rfl⟩) (by walk_at "e")) ⟨cellF s 0, 7, rfl, by decide, rfl⟩) ?_
  refine q_asg (d := sL (wrsF (cellF s 1) 5)) (e_call (ds := [.int (cellF s 1), .int 5]) (a_cons (e_call (ds := [iL s, .int 1]) (by walk_at "e") ⟨s, 1, rfl, by decide, rfl⟩) (by walk_at "e")) ⟨cellF s 1, 5, rfl, by decide, rfl⟩) ?_
  generalize nmsF (cellF s 0) 7 = ns at hn7 hno ⊢
  generalize wrsF (cellF s 1) 5 = ws at hw5 hwo ⊢
  have hd12 := draws_len (cellF s 2) 12
  refine q_asg (d := lbD (sortP (lbs (draws (cellF s 2) 12) ns ws 6))) (e_call (ds := [iL (draws (cellF s 2) 12), sL ns, sL ws]) (a_cons (e_call (ds := [.int (cellF s 2), .int 12]) (a_cons (e_call (ds := [iL s, .int 2]) (by walk_at "e") ⟨s, 2, rfl, by decide, rfl⟩) (by walk_at "e")) ⟨cellF s 2, 12, rfl, by decide, rfl⟩) (by walk_at "e")) ⟨_, ns, ws, rfl, hd12, by omega, by omega, rfl⟩) ?_
  have h0 : Iv1 ns (sortP (lbs (draws (cellF s 2) 12) ns ws 6)) (sortP (lbs (draws (cellF s 2) 12) ns ws 6)) := iv_first (lbs_nd _ _ _ _) (fun p hp => lbs_mem (by omega) (by omega) _ p hp) hno hwo
  generalize sortP (lbs (draws (cellF s 2) 12) ns ws 6) = L0 at h0 ⊢
  have l0 := iv_len h0 hn7
  refine q_dnew ?_
  refine q_for1 (fun i => [.fz (iL s), .fz (sL ns), .fz (sL ws), .fz (lbD L0), .od (mD (L0.take i)), .un, .un, .un, .un, .un, .un]) (it_at (e_var rfl)) (Wk.refl _) (fun F1 i d hd => ?_) ?_
  · obtain ⟨p, hp, rfl⟩ := map_get hd
    refine ⟨_, _, g_tup (gs_cons g_name (gs_cons g_name gs_nil)) rfl, ?_⟩
    refine s_dput (k := p.1) (d := .str p.2) rfl (e_var rfl) (e_var rfl) (by rw [List.length_map, List.length_take]; omega) (n_end1 ?_)
    refine .keep rfl (.keep rfl (.keep rfl (.keep rfl (.keep ?_ (.drop (.drop (.keep rfl (.keep rfl (.keep rfl (.keep rfl .nil))))))))))
    show Sl.od (mD (L0.take (i + 1))) = .od (putD (mD (L0.take i)) p.1 (.str p.2))
    rw [putD_mD, put_take (srt_nd h0.srt) hp]
  have et : L0.take (L0.map prD).length = L0 := by rw [List.length_map, List.take_length]
  rw [et]
  refine q_if (b := !true) (t_not (t_tru (E.b (x_call (as := [.d (lbD L0), .d (sL ns), .k (mD L0)]) (by walk_at "e") ⟨L0, ns, L0, rfl, h0.agr (by omega), rfl⟩ rfl)) rfl)) (fun h => by cases h) fun _ => s_next (n_go ?_)
  refine q_for (fun _ (a : List (Str × Str) × List (Str × Str)) => [.fz (iL s), .fz (sL ns), .fz (sL ws), .fz (lbD a.1), .od (mD a.2), .un, .un, .un, .un, .un, .un]) (fun _ a => Iv1 ns a.1 a.2) (it_al (EL.e (el_sl (lo := some 3) (hi := none) (e_var rfl) (o_some e_int) o_none))) (L0, L0) h0 (Wk.refl _) (fun F1 i a d hd p => ?_) fun a p => ?_
  · rw [cut_map] at hd
    obtain ⟨c, _, rfl⟩ := map_get hd
    obtain ⟨L, M⟩ := a
    have pp : Iv1 ns L M := p
    have ll := iv_len pp hn7
    have lm := kok_len pp.kok
    refine ⟨_, _, g_name, ?_⟩
    have dl := draws_len c 6
    refine q_asg (d := iL (draws c 6)) (e_call (ds := [.int c, .int 6]) (by walk_at "e") ⟨c, 6, rfl, by decide, rfl⟩) ?_
    generalize draws c 6 = D at dl ⊢
    have a0 : atI (D.map PyData.int) 0 = _ := at_int (by omega) (by omega)
    have a1 : atI (D.map PyData.int) 1 = _ := at_int (by omega) (by omega)
    have a2 : atI (D.map PyData.int) 2 = _ := at_int (by omega) (by omega)
    have a3 : atI (D.map PyData.int) 3 = _ := at_int (by omega) (by omega)
    have a5 : atI (D.map PyData.int) 5 = _ := at_int (by omega) (by omega)
    have m1 := md (itI D 1) 7 (by decide)
    have m2 := md (itI D 2) 5 (by decide)
    have b1 : atI (ns.map PyData.str) (itI D 1 % 7) = _ := at_str m1.1 (by omega)
    have b2 : atI (ws.map PyData.str) (itI D 2 % 5) = _ := at_str m2.1 (by omega)
    have i1 : itS ns (itI D 1 % 7) ∈ ns := itS_mem m1.1 (by omega)
    have i2 : itS ws (itI D 2 % 5) ∈ ws := itS_mem m2.1 (by omega)
    have cd : (cutA D (some 1) none).length = 5 := by
      unfold cutA
      rw [List.length_take, List.length_drop, dl]; decide
    refine q_asg (d := lbD L) (e_var rfl) ?_
    refine s_cutA (fun a' : List (Str × Str) × List (Str × Str) => [.fz (iL s), .fz (sL ns), .fz (sL ws), .fz (lbD a'.1), .od (mD a'.2), .un, .un, .un, .un, .un, .un]) (fun a' => Iv1 ns a'.1 a'.2) ?_ fun a' p' => ?_
    · refine s_if (b := decide (itI D 0 % 3 = 0)) (by walk_at "e") (fun _ => ?_) fun _ => ?_
      · refine q_asg (d := .str (itS ws (itI D 2 % 5))) (by walk_at "e") ?_
        refine s_cutA (fun v : Str => [.fz (iL s), .fz (sL ns), .fz (sL ws), .fz (lbD L), .od (mD M), .un, .fz (.str v), .un, .fz (iL D), .fz (lbD L), .un]) (fun v => PyData.strOk v = true) ?_ fun v hv => ?_
        · refine s_if (b := decide (itI D 3 % 3 = 0)) (by walk_at "e") (fun _ => ?_) fun _ => ?_
          · exact s_asg (d := .str "") e_str (n_end "" ok_emp (.keep rfl (.keep rfl (.keep rfl (.keep rfl (.keep rfl (.keep rfl (.keep rfl (.drop (.keep rfl (.keep rfl (.keep rfl .nil))))))))))))
          · exact s_next (n_end _ (hwo _ i2).1 (.keep rfl (.keep rfl (.keep rfl (.keep rfl (.keep rfl (.keep rfl (.keep rfl (.drop (.keep rfl (.keep rfl (.keep rfl .nil))))))))))))
        · refine q_asg (d := lbD (sortP (wiD L (itS ns (itI D 1 % 7)) v))) (e_call (ds := [lbD L, .str (itS ns (itI D 1 % 7)), .str v]) (by walk_at "e") ⟨L, _, v, rfl, ll, rfl⟩) ?_
          refine s_dput (k := itS ns (itI D 1 % 7)) (d := .str v) rfl (by walk_at "e") (e_var rfl) (by rw [List.length_map]; omega) (n_end (_, ptS M (itS ns (itI D 1 % 7)) v) (pp.wi i1 ⟨hno _ i1, hv⟩) ?_)
          refine .keep rfl (.keep rfl (.keep rfl (.keep rfl (.keep ?_ (.drop (.drop (.drop (.drop (.drop (.drop .nil))))))))))
          rw [putD_mD]
      · refine s_if (b := decide (itI D 0 % 3 = 1)) (by walk_at "e") (fun _ => ?_) fun _ => ?_
        · refine q_asg (d := sL (someF (cutA D (some 1) none) ns)) (e_call (ds := [.list (DW.cutD (D.map PyData.int) (some 1) none), sL ns]) (a_cons (EL.e (el_sl (lo := some 1) (hi := none) (e_var rfl) (o_some e_int) o_none)) (by walk_at "e")) ⟨cutA D (some 1) none, ns, by rw [cut_map], by omega, by omega, by omega, rfl⟩) ?_
          have ok : ∀ n ∈ someF (cutA D (some 1) none) ns, n ∈ ns := fun n h => by
            unfold someF at h
            obtain ⟨x, _, rfl⟩ := List.mem_map.mp h
            exact itS_in (by omega)
          generalize someF (cutA D (some 1) none) ns = sm at ok ⊢
          refine q_asg (d := lbD (noD L sm)) (e_call (ds := [lbD L, .list (sm.map .str)]) (a_cons (e_var rfl) (a_cons (EL.e (lw_list (e_var rfl))) a_nil)) ⟨L, sm, _, rfl, .inl rfl, ll, rfl⟩) ?_
          have kk : ∀ i, KOk ns (pf (fun _ => true) M (sm.take i)) := fun i => pf_kok pp.kok fun n h => ⟨ok n (List.mem_of_mem_take h), hno n (ok n (List.mem_of_mem_take h)), ok_emp⟩
          refine s_for1 (fun i => [.fz (iL s), .fz (sL ns), .fz (sL ws), .fz (lbD (noD L sm)), .od (mD (pf (fun _ => true) M (sm.take i))), .un, .un, .un, .un, .un, .un]) (it_al (e_var rfl)) (.keep rfl (.keep rfl (.keep rfl (.keep rfl (.keep rfl (.drop (.drop (.drop (.drop (.drop (.drop .nil))))))))))) (fun F2 i d hd => ?_) ?_
          · obtain ⟨n, hn, rfl⟩ := map_get hd
            have := kok_len (kk i)
            refine ⟨_, _, g_name, ?_⟩
            refine s_dput (k := n) (d := .str "") rfl (e_var rfl) e_str (by rw [List.length_map]; omega) (n_end1 ?_)
            refine .keep rfl (.keep rfl (.keep rfl (.keep rfl (.keep ?_ (.drop (.drop (.drop (.drop (.drop (.drop .nil))))))))))
            rw [putD_mD, pf_take hn]; rfl
          · have es : sm.take (sm.map PyData.str).length = sm := by rw [List.length_map, List.take_length]
            rw [es]
            exact n_end (noD L sm, pf (fun _ => true) M sm) (pp.no fun n h => ⟨ok n h, hno n (ok n h), ok_emp⟩) (Wk.refl _)
        · have el : (someF (cutA D (some 1) none) ns).map PyData.str ++ DW.cutD (ns.map PyData.str) none (some (itI D 5 % 7)) = (someF (cutA D (some 1) none) ns ++ cutA ns none (some (itI D 5 % 7))).map PyData.str := by rw [cut_map, List.map_append]
          have c1 := cut_len (cutA D (some 1) none) none (some (1 + itI (cutA D (some 1) none) 0 % 4))
          have c2 := cut_len ns none (some (itI D 5 % 7))
          have c3 : (someF (cutA D (some 1) none) ns).length ≤ 5 := by unfold someF; rw [List.length_map]; omega
          refine q_asg (d := .list ((someF (cutA D (some 1) none) ns).map PyData.str ++ DW.cutD (ns.map PyData.str) none (some (itI D 5 % 7)))) (EL.e (el_op (e_call (ds := [.list (DW.cutD (D.map PyData.int) (some 1) none), sL ns]) (a_cons (EL.e (el_sl (lo := some 1) (hi := none) (e_var rfl) (o_some e_int) o_none)) (by walk_at "e")) ⟨cutA D (some 1) none, ns, by rw [cut_map], by omega, by omega, by omega, rfl⟩) (EL.e (el_sl (lo := none) (hi := some (itI D 5 % 7)) (e_var rfl) o_none (o_some (by walk_at "e")))) (add_l (by rw [cut_map, List.length_map, List.length_map]; omega)))) ?_
          rw [el]
          generalize someF (cutA D (some 1) none) ns ++ cutA ns none (some (itI D 5 % 7)) = sm
          refine q_asg (d := lbD (onD L sm)) (e_call (ds := [lbD L, .tuple (sm.map .str)]) (a_cons (e_var rfl) (a_cons (e_tupE (e_var rfl)) a_nil)) ⟨L, sm, _, rfl, .inr rfl, ll, rfl⟩) ?_
          have km : ∀ n ∈ M.map (·.1), n ∈ ns ∧ okS (n, "") := fun n h => ⟨pp.kok.key n h, hno n (pp.kok.key n h), ok_emp⟩
          have kk : ∀ i, KOk ns (pf (fun n => !decide (n ∈ sm)) M ((M.map (·.1)).take i)) := fun i => pf_kok pp.kok fun n h => km n (List.mem_of_mem_take h)
          have sc := scal_strs sm
          refine s_for1 (fun i => [.fz (iL s), .fz (sL ns), .fz (sL ws), .fz (lbD (onD L sm)), .od (mD (pf (fun n => !decide (n ∈ sm)) M ((M.map (·.1)).take i))), .un, .un, .un, .un, .un, .fz (sL sm)]) (it_al (EL.e (lw_dict rfl))) (.keep rfl (.keep rfl (.keep rfl (.keep rfl (.keep rfl (.drop (.drop (.drop (.drop (.drop (.keep rfl .nil))))))))))) (fun F2 i d hd => ?_) ?_
          · rw [keys_mD] at hd
            obtain ⟨n, hn, rfl⟩ := map_get hd
            have := kok_len (kk i)
            refine ⟨_, _, g_name, ?_⟩
            refine s_if (b := !inD (.str n) (sm.map .str)) (t_test (b_op (E.b (e_var rfl)) (E.b (e_var rfl)) (ni_l rfl sc) rfl)) (fun h => ?_) fun h => ?_
            · rw [inD_str] at h
              refine s_dput (k := n) (d := .str "") rfl (e_var rfl) e_str (by rw [List.length_map]; omega) (n_end1 ?_)
              refine .keep rfl (.keep rfl (.keep rfl (.keep rfl (.keep ?_ (.drop (.drop (.drop (.drop (.drop (.keep rfl .nil))))))))))
              rw [putD_mD, pf_take hn, if_pos h]
            · rw [inD_str] at h
              refine s_next (n_end1 ?_)
              refine .keep rfl (.keep rfl (.keep rfl (.keep rfl (.keep ?_ (.drop (.drop (.drop (.drop (.drop (.keep rfl .nil))))))))))
              rw [pf_take hn, if_neg (by rw [h]; decide)]
          · rw [keys_mD]
            have es : (M.map (·.1)).take ((M.map (·.1)).map PyData.str).length = M.map (·.1) := by rw [List.length_map, List.take_length]
            rw [es]
            exact n_end (onD L sm, pf (fun n => !decide (n ∈ sm)) M (M.map (·.1))) (pp.on fun n h => (km n h).2) (.keep rfl (.keep rfl (.keep rfl (.keep rfl (.keep rfl (.keep rfl (.keep rfl (.keep rfl (.keep rfl (.keep rfl (.drop .nil)))))))))))
    · obtain ⟨L', M'⟩ := a'
      have p2 : Iv1 ns L' M' := p'
      refine s_if (b := !true) (t_not (t_tru (E.b (x_call (as := [.d (lbD L'), .d (sL ns), .k (mD M')]) (by walk_at "e") ⟨L', ns, M', rfl, p2.agr (by omega), rfl⟩ rfl)) rfl)) (fun h => by cases h) fun _ => s_next (n_end (L', M') p2 (Wk.refl _))
  · exact s_ret e_bl rt
end

theorem all_mk {l : PySem.W.OpenLaw} {w : World} {K : PySem.W.Frag} {h : Heap} {mg : Str → Option Value} {fa f1 f2 f3 f4 f5 f6 f7 f8 f9 f10 f11 f12 f13 f14 : Addr} (X : K.In h) (G : h.Ns mainGlobals mg) (hfa : mg "law" = some (.ref fa))
    {od1 an1 od2 an2 od3 an3 od4 an4 od5 an5 od6 an6 od7 an7 od8 an8 od9 an9 od10 an10 od11 an11 od12 an12 od13 an13 od14 an14 : Option Addr} {sl1 sl2 sl3 sl4 sl5 sl6 sl7 sl8 sl9 sl10 sl11 sl12 sl13 sl14 : Array (Option Value)} {oc1 kV1 dc1 pm1 cd1 ct1 oc2 kV2 dc2 pm2 cd2 ct2 oc3 kV3 dc3 pm3 cd3 ct3 oc4 kV4 dc4 pm4 cd4 ct4 oc5 kV5 dc5 pm5 cd5 ct5 oc6 kV6 dc6 pm6 cd6 ct6 oc7 kV7 dc7 pm7 cd7 ct7 oc8 kV8 dc8 pm8 cd8 ct8 oc9 kV9 dc9 pm9 cd9 ct9 oc10 kV10 dc10 pm10 cd10 ct10 oc11 kV11 dc11 pm11 cd11 ct11 oc12 kV12 dc12 pm12 cd12 ct12 oc13 kV13 dc13 pm13 cd13 ct13 oc14 kV14 dc14 pm14 cd14 ct14 : Value}
    (a1 : PySem.W.nsIn K mainGlobals "value_of" = some (some (.ref f1))) (l1 : K.lookup f1 = some ⟨oc1, od1, .func (PySem.W.fnOf "value_of" "value_of" (defArgs s_value_of) (defBody s_value_of) (defScope s_value_of) .none kV1 dc1 pm1 an1 cd1 ct1), sl1⟩) (c1 : PySem.W.codeIn K cd1 "value_of" = true) (k1 : PySem.W.keepIn K (.ref f1) = true)
    (a2 : PySem.W.nsIn K mainGlobals "without" = some (some (.ref f2))) (l2 : K.lookup f2 = some ⟨oc2, od2, .func (PySem.W.fnOf "without" "without" (defArgs s_without) (defBody s_without) (defScope s_without) .none kV2 dc2 pm2 an2 cd2 ct2), sl2⟩) (c2 : PySem.W.codeIn K cd2 "without" = true) (k2 : PySem.W.keepIn K (.ref f2) = true)
    (a3 : PySem.W.nsIn K mainGlobals "only" = some (some (.ref f3))) (l3 : K.lookup f3 = some ⟨oc3, od3, .func (PySem.W.fnOf "only" "only" (defArgs s_only) (defBody s_only) (defScope s_only) .none kV3 dc3 pm3 an3 cd3 ct3), sl3⟩) (c3 : PySem.W.codeIn K cd3 "only" = true) (k3 : PySem.W.keepIn K (.ref f3) = true)
    (a4 : PySem.W.nsIn K mainGlobals "with_label" = some (some (.ref f4))) (l4 : K.lookup f4 = some ⟨oc4, od4, .func (PySem.W.fnOf "with_label" "with_label" (defArgs s_with_label) (defBody s_with_label) (defScope s_with_label) .none kV4 dc4 pm4 an4 cd4 ct4), sl4⟩) (c4 : PySem.W.codeIn K cd4 "with_label" = true) (k4 : PySem.W.keepIn K (.ref f4) = true)
    (a5 : PySem.W.nsIn K mainGlobals "_law_cell" = some (some (.ref f5))) (l5 : K.lookup f5 = some ⟨oc5, od5, .func (PySem.W.fnOf "_law_cell" "_law_cell" (defArgs s_l_law_cell) (defBody s_l_law_cell) (defScope s_l_law_cell) .none kV5 dc5 pm5 an5 cd5 ct5), sl5⟩) (c5 : PySem.W.codeIn K cd5 "_law_cell" = true) (k5 : PySem.W.keepIn K (.ref f5) = true)
    (a6 : PySem.W.nsIn K mainGlobals "_law_draws" = some (some (.ref f6))) (l6 : K.lookup f6 = some ⟨oc6, od6, .func (PySem.W.fnOf "_law_draws" "_law_draws" (defArgs s_l_law_draws) (defBody s_l_law_draws) (defScope s_l_law_draws) .none kV6 dc6 pm6 an6 cd6 ct6), sl6⟩) (c6 : PySem.W.codeIn K cd6 "_law_draws" = true) (k6 : PySem.W.keepIn K (.ref f6) = true)
    (a7 : PySem.W.nsIn K mainGlobals "_law_name" = some (some (.ref f7))) (l7 : K.lookup f7 = some ⟨oc7, od7, .func (PySem.W.fnOf "_law_name" "_law_name" (defArgs s_l_law_name) (defBody s_l_law_name) (defScope s_l_law_name) .none kV7 dc7 pm7 an7 cd7 ct7), sl7⟩) (c7 : PySem.W.codeIn K cd7 "_law_name" = true) (k7 : PySem.W.keepIn K (.ref f7) = true)
    (a8 : PySem.W.nsIn K mainGlobals "_law_worth" = some (some (.ref f8))) (l8 : K.lookup f8 = some ⟨oc8, od8, .func (PySem.W.fnOf "_law_worth" "_law_worth" (defArgs s_l_law_worth) (defBody s_l_law_worth) (defScope s_l_law_worth) .none kV8 dc8 pm8 an8 cd8 ct8), sl8⟩) (c8 : PySem.W.codeIn K cd8 "_law_worth" = true) (k8 : PySem.W.keepIn K (.ref f8) = true)
    (a9 : PySem.W.nsIn K mainGlobals "_law_names" = some (some (.ref f9))) (l9 : K.lookup f9 = some ⟨oc9, od9, .func (PySem.W.fnOf "_law_names" "_law_names" (defArgs s_l_law_names) (defBody s_l_law_names) (defScope s_l_law_names) .none kV9 dc9 pm9 an9 cd9 ct9), sl9⟩) (c9 : PySem.W.codeIn K cd9 "_law_names" = true) (k9 : PySem.W.keepIn K (.ref f9) = true)
    (a10 : PySem.W.nsIn K mainGlobals "_law_worths" = some (some (.ref f10))) (l10 : K.lookup f10 = some ⟨oc10, od10, .func (PySem.W.fnOf "_law_worths" "_law_worths" (defArgs s_l_law_worths) (defBody s_l_law_worths) (defScope s_l_law_worths) .none kV10 dc10 pm10 an10 cd10 ct10), sl10⟩) (c10 : PySem.W.codeIn K cd10 "_law_worths" = true) (k10 : PySem.W.keepIn K (.ref f10) = true)
    (a11 : PySem.W.nsIn K mainGlobals "_law_labels" = some (some (.ref f11))) (l11 : K.lookup f11 = some ⟨oc11, od11, .func (PySem.W.fnOf "_law_labels" "_law_labels" (defArgs s_l_law_labels) (defBody s_l_law_labels) (defScope s_l_law_labels) .none kV11 dc11 pm11 an11 cd11 ct11), sl11⟩) (c11 : PySem.W.codeIn K cd11 "_law_labels" = true) (k11 : PySem.W.keepIn K (.ref f11) = true)
    (a12 : PySem.W.nsIn K mainGlobals "_law_agrees" = some (some (.ref f12))) (l12 : K.lookup f12 = some ⟨oc12, od12, .func (PySem.W.fnOf "_law_agrees" "_law_agrees" (defArgs s_l_law_agrees) (defBody s_l_law_agrees) (defScope s_l_law_agrees) .none kV12 dc12 pm12 an12 cd12 ct12), sl12⟩) (c12 : PySem.W.codeIn K cd12 "_law_agrees" = true) (k12 : PySem.W.keepIn K (.ref f12) = true)
    (a13 : PySem.W.nsIn K mainGlobals "_law_some" = some (some (.ref f13))) (l13 : K.lookup f13 = some ⟨oc13, od13, .func (PySem.W.fnOf "_law_some" "_law_some" (defArgs s_l_law_some) (defBody s_l_law_some) (defScope s_l_law_some) .none kV13 dc13 pm13 an13 cd13 ct13), sl13⟩) (c13 : PySem.W.codeIn K cd13 "_law_some" = true) (k13 : PySem.W.keepIn K (.ref f13) = true)
    (a14 : PySem.W.nsIn K mainGlobals "law" = some (some (.ref f14))) (l14 : K.lookup f14 = some ⟨oc14, od14, .func (PySem.W.fnOf "law" "law" (defArgs s_law) (defBody s_law) (defScope s_law) .none kV14 dc14 pm14 an14 cd14 ct14), sl14⟩) (c14 : PySem.W.codeIn K cd14 "law" = true) (k14 : PySem.W.keepIn K (.ref f14) = true)
    (z1 : PySem.W.nsIn K mainGlobals "len" = some none)
    (z2 : PySem.W.nsIn K mainGlobals "range" = some none)
    (z3 : PySem.W.nsIn K mainGlobals "sorted" = some none)
    (z4 : PySem.W.nsIn K mainGlobals "list" = some none)
    (z5 : PySem.W.nsIn K mainGlobals "tuple" = some none)
    (z6 : PySem.W.nsIn K mainGlobals "int" = some none)
    (z7 : PySem.W.nsIn K mainGlobals "bool" = some none)
    (z8 : PySem.W.nsIn K mainGlobals "str" = some none)
    (z9 : PySem.W.nsIn K mainGlobals "dict" = some none)
    (z10 : PySem.W.nsIn K mainGlobals "set" = some none)
    (z11 : PySem.W.nsIn K mainGlobals "isinstance" = some none)
    (z12 : PySem.W.nsIn K mainGlobals "sum" = some none)
    (z13 : PySem.W.nsIn K mainGlobals "min" = some none)
    (z14 : PySem.W.nsIn K mainGlobals "max" = some none)
    (z15 : PySem.W.nsIn K mainGlobals "enumerate" = some none)
    (z16 : PySem.W.nsIn K mainGlobals "zip" = some none)
    (z17 : PySem.W.nsIn K mainGlobals "any" = some none)
    (z18 : PySem.W.nsIn K mainGlobals "all" = some none)
    (z19 : PySem.W.nsIn K mainGlobals "abs" = some none) :
    ∃ fd : FuncData, (∀ (s : Shared) (v : Value), BindsTo s fd ⟨[v], []⟩ [("script", v)]) ∧ ∀ base : Heap, K.In base → base.Ns mainGlobals mg → FnOk l.prog w K mg base CX0 3 fa fd ["script"] (spD K [] R_law) := by
  have e := hfa.symm.trans (PySem.W.mg_of X G a14)
  cases e
  have Z : Zb mg := ⟨PySem.W.mg_none_of X G z1, PySem.W.mg_none_of X G z2, PySem.W.mg_none_of X G z3, PySem.W.mg_none_of X G z4, PySem.W.mg_none_of X G z5, PySem.W.mg_none_of X G z6, PySem.W.mg_none_of X G z7, PySem.W.mg_none_of X G z8, PySem.W.mg_none_of X G z9, PySem.W.mg_none_of X G z10, PySem.W.mg_none_of X G z11, PySem.W.mg_none_of X G z12, PySem.W.mg_none_of X G z13, PySem.W.mg_none_of X G z14, PySem.W.mg_none_of X G z15, PySem.W.mg_none_of X G z16, PySem.W.mg_none_of X G z17, PySem.W.mg_none_of X G z18, PySem.W.mg_none_of X G z19⟩
  have F1 := fun_mk (st := s_value_of) l1 c1 k1
  have b1 := F1.binds (ps := ["labels", "name"]) fun _ _ _ _ _ _ us hl => match us, hl with | [_, _], _ => rfl
  have F2 := fun_mk (st := s_without) l2 c2 k2
  have b2 := F2.binds (ps := ["labels", "names"]) fun _ _ _ _ _ _ us hl => match us, hl with | [_, _], _ => rfl
  have F3 := fun_mk (st := s_only) l3 c3 k3
  have b3 := F3.binds (ps := ["labels", "names"]) fun _ _ _ _ _ _ us hl => match us, hl with | [_, _], _ => rfl
  have F4 := fun_mk (st := s_with_label) l4 c4 k4
  have b4 := F4.binds (ps := ["labels", "name", "value"]) fun _ _ _ _ _ _ us hl => match us, hl with | [_, _, _], _ => rfl
  have F5 := fun_mk (st := s_l_law_cell) l5 c5 k5
  have b5 := F5.binds (ps := ["script", "k"]) fun _ _ _ _ _ _ us hl => match us, hl with | [_, _], _ => rfl
  have F6 := fun_mk (st := s_l_law_draws) l6 c6 k6
  have b6 := F6.binds (ps := ["cell", "many"]) fun _ _ _ _ _ _ us hl => match us, hl with | [_, _], _ => rfl
  have F7 := fun_mk (st := s_l_law_name) l7 c7 k7
  have b7 := F7.binds (ps := ["first", "second"]) fun _ _ _ _ _ _ us hl => match us, hl with | [_, _], _ => rfl
  have F8 := fun_mk (st := s_l_law_worth) l8 c8 k8
  have b8 := F8.binds (ps := ["first", "second"]) fun _ _ _ _ _ _ us hl => match us, hl with | [_, _], _ => rfl
  have F9 := fun_mk (st := s_l_law_names) l9 c9 k9
  have b9 := F9.binds (ps := ["cell", "many"]) fun _ _ _ _ _ _ us hl => match us, hl with | [_, _], _ => rfl
  have F10 := fun_mk (st := s_l_law_worths) l10 c10 k10
  have b10 := F10.binds (ps := ["cell", "many"]) fun _ _ _ _ _ _ us hl => match us, hl with | [_, _], _ => rfl
  have F11 := fun_mk (st := s_l_law_labels) l11 c11 k11
  have b11 := F11.binds (ps := ["draws", "names", "worths"]) fun _ _ _ _ _ _ us hl => match us, hl with | [_, _, _], _ => rfl
  have F12 := fun_mk (st := s_l_law_agrees) l12 c12 k12
  have b12 := F12.binds (ps := ["labels", "names", "known"]) fun _ _ _ _ _ _ us hl => match us, hl with | [_, _, _], _ => rfl
  have F13 := fun_mk (st := s_l_law_some) l13 c13 k13
  have b13 := F13.binds (ps := ["draws", "names"]) fun _ _ _ _ _ _ us hl => match us, hl with | [_, _], _ => rfl
  have F14 := fun_mk (st := s_law) l14 c14 k14
  refine ⟨PySem.W.fnOf "law" "law" (defArgs s_law) (defBody s_law) (defScope s_law) .none kV14 dc14 pm14 an14 cd14 ct14, fun s v => .of_eq rfl, fun base _ _ => ?_⟩
  have D1 := ok_value_of (P := l.prog) (w := w) (K := K) (mg := mg) (base := base) (Tb := []) F1 (PySem.W.mg_of X G a1) b1 Z 
  have D2 := ok_without (P := l.prog) (w := w) (K := K) (mg := mg) (base := base) (Tb := []) F2 (PySem.W.mg_of X G a2) b2 Z 
  have D3 := ok_only (P := l.prog) (w := w) (K := K) (mg := mg) (base := base) (Tb := []) F3 (PySem.W.mg_of X G a3) b3 Z 
  have D4 := ok_with_label (P := l.prog) (w := w) (K := K) (mg := mg) (base := base) (Tb := []) F4 (PySem.W.mg_of X G a4) b4 Z D2
  have D5 := ok_cell (P := l.prog) (w := w) (K := K) (mg := mg) (base := base) (Tb := []) F5 (PySem.W.mg_of X G a5) b5 Z 
  have D6 := ok_draws (P := l.prog) (w := w) (K := K) (mg := mg) (base := base) (Tb := []) F6 (PySem.W.mg_of X G a6) b6 Z 
  have D7 := ok_name (P := l.prog) (w := w) (K := K) (mg := mg) (base := base) (Tb := []) F7 (PySem.W.mg_of X G a7) b7 Z 
  have D8 := ok_worth (P := l.prog) (w := w) (K := K) (mg := mg) (base := base) (Tb := []) F8 (PySem.W.mg_of X G a8) b8 Z 
  have D9 := ok_names (P := l.prog) (w := w) (K := K) (mg := mg) (base := base) (Tb := []) F9 (PySem.W.mg_of X G a9) b9 Z D6 D7
  have D10 := ok_worths (P := l.prog) (w := w) (K := K) (mg := mg) (base := base) (Tb := []) F10 (PySem.W.mg_of X G a10) b10 Z D6 D8
  have D11 := ok_labels (P := l.prog) (w := w) (K := K) (mg := mg) (base := base) (Tb := []) F11 (PySem.W.mg_of X G a11) b11 Z 
  have D12 := ok_agrees (P := l.prog) (w := w) (K := K) (mg := mg) (base := base) (Tb := []) F12 (PySem.W.mg_of X G a12) b12 Z D1
  have D13 := ok_some (P := l.prog) (w := w) (K := K) (mg := mg) (base := base) (Tb := []) F13 (PySem.W.mg_of X G a13) b13 Z 
  exact ok_law (Tb := []) F14 Z D5 D6 D9 D10 D11 D13 D12 D4 D2 D3
end K1
open PySem PySem.W PyProof.Rows
set_option maxHeartbeats 0 in
theorem PySem.Challenge.cw_watchfloor_k01_base_labels_change_holds : PySem.Challenge.rw_watchfloor_k01_base_labels_change.Holds := by
  w_on; o_law; k_head; (case hw => w_witness2)
  k_fill
  refine L2.walk_of (l := PySem.Challenge.rw_watchfloor_k01_base_labels_change) (n := 63) (k := 3) (x := "script") (CX := fun _ => L2.CX0) (sp := fun w => DW.spD _ [] K1.R_law) rfl (by decide) rfl ⟨rfl, by decide, by decide⟩ (fun w h Y => PySem.W.kIn_of Y) ?F (fun _ H a ns hl _ hS => ⟨DW.cut H, [.list (ns.map .int)], .bool true, DW.sub_cut H, (fun _ h => nomatch h), DW.dp_script hS, ⟨ns, rfl, hl, rfl⟩, fun v F' H' _ hd => by cases hd; rfl⟩) (fun _ _ _ _ _ h => h)
  case F =>
    intro w mg fa h KX G hmg
    refine' K1.all_mk KX G hmg ?a1 ?l1 ?c1 ?k1 ?a2 ?l2 ?c2 ?k2 ?a3 ?l3 ?c3 ?k3 ?a4 ?l4 ?c4 ?k4 ?a5 ?l5 ?c5 ?k5 ?a6 ?l6 ?c6 ?k6 ?a7 ?l7 ?c7 ?k7 ?a8 ?l8 ?c8 ?k8 ?a9 ?l9 ?c9 ?k9 ?a10 ?l10 ?c10 ?k10 ?a11 ?l11 ?c11 ?k11 ?a12 ?l12 ?c12 ?k12 ?a13 ?l13 ?c13 ?k13 ?a14 ?l14 ?c14 ?k14 ?z1 ?z2 ?z3 ?z4 ?z5 ?z6 ?z7 ?z8 ?z9 ?z10 ?z11 ?z12 ?z13 ?z14 ?z15 ?z16 ?z17 ?z18 ?z19
    (case a1 => k_is); (case l1 => k_is); (case c1 => k_is); (case k1 => k_is); (case a2 => k_is); (case l2 => k_is); (case c2 => k_is); (case k2 => k_is); (case a3 => k_is); (case l3 => k_is); (case c3 => k_is); (case k3 => k_is); (case a4 => k_is); (case l4 => k_is); (case c4 => k_is); (case k4 => k_is); (case a5 => k_is); (case l5 => k_is); (case c5 => k_is); (case k5 => k_is); (case a6 => k_is); (case l6 => k_is); (case c6 => k_is); (case k6 => k_is); (case a7 => k_is); (case l7 => k_is); (case c7 => k_is); (case k7 => k_is); (case a8 => k_is); (case l8 => k_is); (case c8 => k_is); (case k8 => k_is); (case a9 => k_is); (case l9 => k_is); (case c9 => k_is); (case k9 => k_is); (case a10 => k_is); (case l10 => k_is); (case c10 => k_is); (case k10 => k_is); (case a11 => k_is); (case l11 => k_is); (case c11 => k_is); (case k11 => k_is); (case a12 => k_is); (case l12 => k_is); (case c12 => k_is); (case k12 => k_is); (case a13 => k_is); (case l13 => k_is); (case c13 => k_is); (case k13 => k_is); (case a14 => k_is); (case l14 => k_is); (case c14 => k_is); (case k14 => k_is); (case z1 => k_is); (case z2 => k_is); (case z3 => k_is); (case z4 => k_is); (case z5 => k_is); (case z6 => k_is); (case z7 => k_is); (case z8 => k_is); (case z9 => k_is); (case z10 => k_is); (case z11 => k_is); (case z12 => k_is); (case z13 => k_is); (case z14 => k_is); (case z15 => k_is); (case z16 => k_is); (case z17 => k_is); (case z18 => k_is); (case z19 => k_is)
