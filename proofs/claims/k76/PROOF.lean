import PyProof.Rows.All
import Wide.All
import OpenK.AllK
import Wide.FinOn
import HandS.ForMost
import HandS.AnyAll
import HandS.Conv
import HandS.IsInst
import HandS.Flow
import HandS.Walk
import HandS.Evl
import HandS.SortOrd
import KE.KSortTupG
import HandS.TupLe
import HandS.More
import HandS.ExcIs
import HandS.ExcField
import HandS.ExcInit
import HandS.WordsExc
import HandS.ExcOwn
import HandS.TupAny
import HandS.GenList
import HandS.EndTab
import HandS.SortKw
import HandS.Rev
import KE.DataMinMax
import KE.DataEq
import KE.SortData
import HandS.NoneIn
import HandS.Gcd
import HandS.SetKeys
import HandS.ListItems
import HandS.Flt
import KE.KDictKeyed
import HandS.DictComp
import KE.LtData
import HandS.TupLen
import HandS.FStr
import HandS.Text
import HandS.RaiseMore
import KE.KItemsList
import PyProof.Transfer
import KE.KDictCopyH
import KE.KDictSum
import HandS.Style
import HandS.TryMany
import HandS.SetFor
import KE.DataFind
import HandS.Wide
import HandS.Iter
import HandS.SetTxt0
import HandS.Strs
import HandS.WrittenGet
import HandS.Defaults
import HandS.MakeKwOnly
import HandS.WideBits
import HandS.CallLocal
import HandS.ReplaceDef
import HandS.ReplaceLit
import HandS.ReplaceList
import PySem.Challenge.RW_watchfloor_k76_configuration_words_check
set_option Elab.async false
set_option linter.all false
set_option maxRecDepth 100000
set_option maxHeartbeats 2000000
/-! DW: walks by data. F: the part of the heap that stays, H: all of it. -/
namespace DW
open PySem PySem.Spec PyProof.Rows L2

/-- what stands in F stands in H (tables may grow) -/
def Ex (F H : Hp) : Prop := ∀ a o, F a = some o → (∀ ps, o ≠ .tbl ps) → H a = some o
theorem Ex.refl (F : Hp) : Ex F F := fun _ _ h _ => h
theorem Ex.trans {F G H : Hp} (a : Ex F G) (b : Ex G H) : Ex F H := fun x o h n => b x o (a x o h n) n
theorem Ex.lst {F H : Hp} (e : Ex F H) {p : Addr} {xs : List V} (h : F p = some (.lst xs)) : H p = some (.lst xs) := e p _ h fun _ z => by cases z
theorem Ex.dk {F H : Hp} (e : Ex F H) {p : Addr} {xs : List (Key × V)} (h : F p = some (.dK xs)) : H p = some (.dK xs) := e p _ h fun _ z => by cases z
theorem Ex.rd {F H : Hp} (e : Ex F H) {a : Addr} {u : HO} (h : Rd F a u) (n : ∀ ps, u ≠ .tbl ps) : Rd H a u := by
  rcases h with h | ⟨o, h⟩
  · exact .inl (e a _ h n)
  · exact .inr ⟨o, e a _ h fun _ z => by cases z⟩
theorem Ex.l {K : PySem.W.Frag} {F H : Hp} {a : Addr} {xs : List V} (e : Ex F H) (h : SqL K F a xs) : SqL K H a xs := by
  rcases h with h | h
  · exact .inl (e.rd h fun _ z => by cases z)
  · exact .inr h
theorem Ex.t {K : PySem.W.Frag} {F H : Hp} {a : Addr} {xs : List V} (e : Ex F H) (h : SqT K F a xs) : SqT K H a xs := by
  rcases h with h | h
  · exact .inl (e.rd h fun _ z => by cases z)
  · exact .inr h
mutual
theorem Ex.dp {K : PySem.W.Frag} {F H : Hp} (e : Ex F H) : ∀ (d : PyData) (v : V), Dp K F v d → Dp K H v d
  | .none, _, h => by cases h; exact .non
  | .bool b, _, h => by cases h; exact .bl b
  | .int i, _, h => by cases h; exact .int i
  | .str x, _, h => by cases h; exact .str x
  | .list ds, _, h => by
    cases h with
    | lst h1 h2 => exact .lst (e.l h1) (Ex.dps e ds _ h2)
  | .tuple ds, _, h => by
    cases h with
    | tup h1 h2 => exact .tup (e.t h1) (Ex.dps e ds _ h2)
  | .dict _, _, h => by cases h
theorem Ex.dps {K : PySem.W.Frag} {F H : Hp} (e : Ex F H) : ∀ (ds : List PyData) (vs : List V), DpAll K F vs ds → DpAll K H vs ds
  | [], _, h => by cases h; exact .nil
  | d :: ds, _, h => by
    cases h with
    | cons h1 h2 => exact .cons (Ex.dp e d _ h1) (Ex.dps e ds _ h2)
end
section
variable {K : PySem.W.Frag} {F H : Hp} {v : V} {d : PyData} {vs : List V} {ds : List PyData}
theorem dps_len : ∀ {vs : List V} {ds : List PyData}, DpAll K F vs ds → vs.length = ds.length
  | _, _, .nil => rfl
  | _, _, .cons _ t => by rw [List.length_cons, List.length_cons, dps_len t]
theorem dps_get : ∀ {vs : List V} {ds : List PyData} {i : Nat} {d : PyData}, DpAll K F vs ds → ds[i]? = some d → ∃ v, vs[i]? = some v ∧ Dp K F v d
  | _, _, _, _, .nil, e => by simp at e
  | _, _, 0, _, .cons h _, e => by simp at e; subst e; exact ⟨_, rfl, h⟩
  | _, _, i + 1, d, .cons _ t, e => by
    obtain ⟨v, h1, h2⟩ := dps_get (i := i) (d := d) t (by simpa using e)
    exact ⟨v, by simpa using h1, h2⟩
theorem dps_get' : ∀ {vs : List V} {ds : List PyData} {i : Nat} {v : V}, DpAll K F vs ds → vs[i]? = some v → ∃ d, ds[i]? = some d ∧ Dp K F v d
  | _, _, _, _, .nil, e => by simp at e
  | _, _, 0, _, .cons h _, e => by simp at e; subst e; exact ⟨_, rfl, h⟩
  | _, _, i + 1, v, .cons _ t, e => by
    obtain ⟨d, h1, h2⟩ := dps_get' (i := i) (v := v) t (by simpa using e)
    exact ⟨d, by simpa using h1, h2⟩
theorem dps_app : ∀ {vs ws : List V} {ds es : List PyData}, DpAll K F vs ds → DpAll K F ws es → DpAll K F (vs ++ ws) (ds ++ es)
  | _, _, _, _, .nil, h => h
  | _, _, _, _, .cons a t, h => .cons a (dps_app t h)
theorem dps_take : ∀ {vs : List V} {ds : List PyData} (n : Nat), DpAll K F vs ds → DpAll K F (vs.take n) (ds.take n)
  | _, _, 0, _ => .nil
  | _, _, _ + 1, .nil => .nil
  | _, _, n + 1, .cons a t => .cons a (dps_take n t)
theorem dps_drop : ∀ {vs : List V} {ds : List PyData} (n : Nat), DpAll K F vs ds → DpAll K F (vs.drop n) (ds.drop n)
  | _, _, 0, h => h
  | _, _, _ + 1, .nil => .nil
  | _, _, n + 1, .cons _ t => dps_drop n t
theorem dp_sq (h : Dp K F v (.list ds)) : ∃ a vs, v = .ref a ∧ SqL K F a vs ∧ DpAll K F vs ds := by
  cases h with
  | lst h1 h2 => exact ⟨_, _, rfl, h1, h2⟩
theorem dp_tq (h : Dp K F v (.tuple ds)) : ∃ a vs, v = .ref a ∧ SqT K F a vs ∧ DpAll K F vs ds := by
  cases h with
  | tup h1 h2 => exact ⟨_, _, rfl, h1, h2⟩
end
/-- a value that needs no heap -/
def scalD : PyData → Bool
  | .none => true
  | .bool _ => true
  | .int _ => true
  | .str _ => true
  | _ => false
theorem dp_scal {K : PySem.W.Frag} {F H : Hp} {v : V} : ∀ {d : PyData}, scalD d = true → Dp K H v d → Dp K F v d
  | .none, _, h => by cases h; exact .non
  | .bool b, _, h => by cases h; exact .bl b
  | .int i, _, h => by cases h; exact .int i
  | .str x, _, h => by cases h; exact .str x
  | .list _, e, _ => by cases e
  | .tuple _, e, _ => by cases e
  | .dict _, e, _ => by cases e

/-- F is a part of H, without tables -/
structure Sub (F H : Hp) : Prop where
  ex : Ex F H
  nt : ∀ a ps, F a ≠ some (.tbl ps)
theorem Sub.free {F H : Hp} (e : Sub F H) {p : Addr} (h : H p = none) : F p = none := by
  cases q : F p with
  | none => rfl
  | some o => rw [e.ex p o q (fun ps z => e.nt p ps (by rw [q, z]))] at h; cases h
/-- H without its tables -/
def cut (H : Hp) : Hp := fun a => match H a with
  | some (.tbl _) => none
  | o => o
theorem cut_of {H : Hp} {a : Addr} {o : HO} (h : H a = some o) (n : ∀ ps, o ≠ .tbl ps) : cut H a = some o := by
  unfold cut; rw [h]; cases o <;> first | rfl | exact absurd rfl (n _)
theorem of_cut {H : Hp} {a : Addr} {o : HO} (h : cut H a = some o) : H a = some o ∧ ∀ ps, o ≠ .tbl ps := by
  unfold cut at h
  cases q : H a with
  | none => rw [q] at h; cases h
  | some u =>
    rw [q] at h
    cases u <;> first | (cases h; exact ⟨rfl, fun _ z => by cases z⟩) | cases h
theorem ex_cut (H : Hp) : Ex H (cut H) := fun _ _ h n => cut_of h n
theorem sub_cut (H : Hp) : Sub (cut H) H := ⟨fun _ _ h _ => (of_cut h).1, fun _ ps h => (of_cut h).2 ps rfl⟩
/-- from (F, H) to (F', H'): nothing that stood changes (tables grow), what was ours stays out of F -/
structure Stp (F H F' H' : Hp) : Prop where
  f : Ex F F'
  i : Sub F' H'
  h : Ex H H'
  s : ∀ a o, H a = some o → ∃ o', H' a = some o'
  t : ∀ P, GxR.TabG H P → GxR.TabG H' P
  n : ∀ a o, H a = some o → F a = none → F' a = none
section
variable {F H F1 H1 F2 H2 : Hp} {p : Addr} {o : HO}
theorem Stp.refl (e : Sub F H) : Stp F H F H := ⟨Ex.refl F, e, Ex.refl H, fun _ o h => ⟨o, h⟩, fun _ h => h, fun _ _ _ h => h⟩
theorem Stp.trans (a : Stp F H F1 H1) (b : Stp F1 H1 F2 H2) : Stp F H F2 H2 :=
  ⟨a.f.trans b.f, b.i, a.h.trans b.h, fun x o h => let ⟨o', h'⟩ := a.s x o h; b.s x o' h', fun P h => b.t P (a.t P h), fun x o h n => let ⟨o', h'⟩ := a.s x o h; b.n x o' h' (a.n x o h n)⟩
theorem tab_upd (h : H p = none) {P : Addr} (t : GxR.TabG H P) : GxR.TabG (upd H p o) P := by
  obtain ⟨ps, e, r⟩ := t
  exact ⟨ps, by rw [upd_ne (ne_of_none e h)]; exact e, r⟩
/-- a new object, ours alone -/
theorem Stp.mine (e : Sub F H) (h : H p = none) : Stp F H F (upd H p o) :=
  ⟨Ex.refl F, ⟨fun a u q n => by have := e.ex a u q n; rw [upd_ne (ne_of_none this h)]; exact this, e.nt⟩, fun a u q _ => by rw [upd_ne (ne_of_none q h)]; exact q,
    fun a u q => ⟨u, by rw [upd_ne (ne_of_none q h)]; exact q⟩, fun _ t => tab_upd h t, fun _ _ _ n => n⟩
/-- a new object for good -/
theorem Stp.new (e : Sub F H) (h : H p = none) (ho : ∀ ps, o ≠ .tbl ps) : Stp F H (upd F p o) (upd H p o) := by
  refine ⟨fun a u q n => ?_, ⟨fun a u q n => ?_, fun a ps q => ?_⟩, fun a u q _ => by rw [upd_ne (ne_of_none q h)]; exact q, fun a u q => ⟨u, by rw [upd_ne (ne_of_none q h)]; exact q⟩, fun _ t => tab_upd h t, fun a u q n => ?_⟩
  · have := e.ex a u q n
    rw [upd_ne (ne_of_none this h)]; exact q
  · by_cases ha : a = p
    · subst ha; rw [upd_same] at q ⊢; exact q
    · rw [upd_ne ha] at q ⊢; exact e.ex a u q n
  · by_cases ha : a = p
    · subst ha; rw [upd_same] at q; cases q; exact ho ps rfl
    · rw [upd_ne ha] at q; exact e.nt a ps q
  · rw [upd_ne (ne_of_none q h)]; exact n
end

/-! ### what the slots hold -/
inductive Sl where
  | un
  | fz (d : PyData)
  | ow (ds : List PyData)
  | raw (v : V)
  | od (kvs : List (Str × PyData))
  | fk (kvs : List (Str × PyData))
  | ob (C : Addr → Hp → HO → Prop)
def Sl.mine : Sl → Bool
  | .ow _ => true
  | .od _ => true
  | .ob _ => true
  | _ => false
/-- a dict with text keys -/
structure KvOk (K : PySem.W.Frag) (F : Hp) (vs : List (Key × V)) (kvs : List (Str × PyData)) : Prop where
  ks : vs.map (·.1) = kvs.map fun p => Sum.inr p.1
  ds : DpAll K F (vs.map (·.2)) (kvs.map (·.2))
theorem KvOk.mono {K : PySem.W.Frag} {F H : Hp} {vs : List (Key × V)} {kvs : List (Str × PyData)} (e : Ex F H) (h : KvOk K F vs kvs) : KvOk K H vs kvs := ⟨h.ks, e.dps _ _ h.ds⟩
def SlOk (K : PySem.W.Frag) (H0 F H : Hp) (o : Option V) : Sl → Prop
  | .un => True
  | .fz d => ∃ v, o = some v ∧ Dp K F v d
  | .ow ds => ∃ p vs, o = some (.ref p) ∧ H0 p = none ∧ F p = none ∧ H p = some (.lst vs) ∧ DpAll K F vs ds
  | .raw v => o = some v
  | .od kvs => ∃ p vs, o = some (.ref p) ∧ H0 p = none ∧ F p = none ∧ H p = some (.dK vs) ∧ KvOk K F vs kvs
  | .fk kvs => ∃ p vs, o = some (.ref p) ∧ Rd F p (.dK vs) ∧ KvOk K F vs kvs
  | .ob C => ∃ p u, o = some (.ref p) ∧ H0 p = none ∧ F p = none ∧ H p = some u ∧ (∀ ps, u ≠ .tbl ps) ∧ ∀ F', Ex F F' → C p F' u
/-- the ground: written part, tables, the heaps at the entry -/
structure Gd where
  K : PySem.W.Frag
  T : List Addr
  F0 : Hp
  H0 : Hp
  Fl : Hp
structure Holds (g : Gd) (G : List Sl) (σ : L2.St) (F H : Hp) : Prop where
  len : σ.length = G.length
  st : Stp g.F0 g.H0 F H
  sl : ∀ (i : Nat) (s : Sl) (o : Option V), G[i]? = some s → σ[i]? = some o → SlOk g.K g.H0 F H o s
  apart : ∀ (i j : Nat) (s t : Sl) (p : Addr), G[i]? = some s → G[j]? = some t → s.mine = true → t.mine = true → σ[i]? = some (some (.ref p)) → σ[j]? = some (some (.ref p)) → i = j
  tab : ∀ P ∈ g.T, GxR.TabG H P
  lo : Ex g.Fl F
section
variable {g : Gd} {G : List Sl} {σ : L2.St} {F H F' H' : Hp} {i : Nat}
theorem Holds.at_ (h : Holds g G σ F H) {s : Sl} (e : G[i]? = some s) : ∃ o, σ[i]? = some o ∧ SlOk g.K g.H0 F H o s := by
  have hi : i < σ.length := by rw [h.len]; exact (List.getElem?_eq_some_iff.mp e).1
  exact ⟨σ[i], List.getElem?_eq_getElem hi, h.sl i s _ e (List.getElem?_eq_getElem hi)⟩
theorem SlOk.mono {K : PySem.W.Frag} {H0 : Hp} {o : Option V} (s : Stp F H F' H') : ∀ {x : Sl}, SlOk K H0 F H o x → SlOk K H0 F' H' o x
  | .un, _ => trivial
  | .fz d, ⟨v, e, h⟩ => ⟨v, e, s.f.dp d v h⟩
  | .ow ds, ⟨p, vs, e, h0, hF, hH, hd⟩ => ⟨p, vs, e, h0, s.n p _ hH hF, s.h.lst hH, s.f.dps ds vs hd⟩
  | .raw v, h => h
  | .od kvs, ⟨p, vs, e, h0, hF, hH, hd⟩ => ⟨p, vs, e, h0, s.n p _ hH hF, s.h.dk hH, hd.mono s.f⟩
  | .fk kvs, ⟨p, vs, e, hr, hd⟩ => ⟨p, vs, e, s.f.rd hr (fun _ z => by cases z), hd.mono s.f⟩
  | .ob C, ⟨p, u, e, h0, hF, hH, nt, hC⟩ => ⟨p, u, e, h0, s.n p _ hH hF, s.h p u hH nt, nt, fun F2 e2 => hC F2 (s.f.trans e2)⟩
theorem Holds.mono (h : Holds g G σ F H) (s : Stp F H F' H') : Holds g G σ F' H' :=
  ⟨h.len, h.st.trans s, fun i x o e1 e2 => (h.sl i x o e1 e2).mono s, h.apart, fun P hP => s.t P (h.tab P hP), h.lo.trans s.f⟩
/-- a slot set -/
theorem Holds.set (h : Holds g G σ F H) {v : V} {s : Sl} (hs : SlOk g.K g.H0 F H (some v) s) (hm : s.mine = true → ∀ (j : Nat) (t : Sl) , j ≠ i → G[j]? = some t → t.mine = true → σ[j]? ≠ some (some v)) : Holds g (G.set i s) (σ.set i (some v)) F H := by
  refine ⟨by rw [List.length_set, List.length_set]; exact h.len, h.st, fun j x o e1 e2 => ?_, fun j k x y p e1 e2 m1 m2 e3 e4 => ?_, h.tab, h.lo⟩
  · by_cases hj : i = j
    · subst hj
      have hi : i < G.length := by have := (List.getElem?_eq_some_iff.mp e1).1; rwa [List.length_set] at this
      rw [List.getElem?_set_self hi] at e1
      rw [List.getElem?_set_self (by rw [h.len]; exact hi)] at e2
      cases e1; cases e2; exact hs
    · rw [List.getElem?_set_ne hj] at e1 e2
      exact h.sl j x o e1 e2
  · by_cases hj : i = j
    · by_cases hk : i = k
      · exact hj.symm.trans hk
      · subst hj
        have hi : i < G.length := by have := (List.getElem?_eq_some_iff.mp e1).1; rwa [List.length_set] at this
        rw [List.getElem?_set_self hi] at e1
        rw [List.getElem?_set_self (by rw [h.len]; exact hi)] at e3
        rw [List.getElem?_set_ne hk] at e2 e4
        cases e1; cases e3
        exact absurd e4 (hm m1 k y (Ne.symm hk) e2 m2)
    · by_cases hk : i = k
      · subst hk
        have hi : i < G.length := by have := (List.getElem?_eq_some_iff.mp e2).1; rwa [List.length_set] at this
        rw [List.getElem?_set_self hi] at e2
        rw [List.getElem?_set_self (by rw [h.len]; exact hi)] at e4
        rw [List.getElem?_set_ne hj] at e1 e3
        cases e2; cases e4
        exact absurd e3 (hm m2 j x (Ne.symm hj) e1 m1)
      · rw [List.getElem?_set_ne hj] at e1 e3
        rw [List.getElem?_set_ne hk] at e2 e4
        exact h.apart j k x y p e1 e2 m1 m2 e3 e4
theorem Holds.setF (h : Holds g G σ F H) {v : V} {d : PyData} (hd : Dp g.K F v d) : Holds g (G.set i (.fz d)) (σ.set i (some v)) F H :=
  h.set (s := .fz d) ⟨v, rfl, hd⟩ fun z => by cases z
/-- a list of ours that no slot holds -/
theorem Holds.setO (h : Holds g G σ F H) {p : Addr} {vs : List V} {ds : List PyData} (h0 : g.H0 p = none) (hF : F p = none) (hH : H p = some (.lst vs)) (hd : DpAll g.K F vs ds) (new : ∀ (j : Nat), j ≠ i → (∃ t, G[j]? = some t ∧ t.mine = true) → σ[j]? ≠ some (some (.ref p))) :
    Holds g (G.set i (.ow ds)) (σ.set i (some (.ref p))) F H :=
  h.set (s := .ow ds) ⟨p, vs, rfl, h0, hF, hH, hd⟩ fun _ j t hj e m => new j hj ⟨t, e, m⟩
/-- forgetting -/
theorem Holds.weak (h : Holds g G σ F H) {G' : List Sl} (hl : G'.length = G.length) (w : ∀ (j : Nat) (s : Sl), G'[j]? = some s → s = .un ∨ G[j]? = some s) : Holds g G' σ F H := by
  refine ⟨h.len.trans hl.symm, h.st, fun j s o e1 e2 => ?_, fun j k s t p e1 e2 m1 m2 e3 e4 => ?_, h.tab, h.lo⟩
  · rcases w j s e1 with rfl | e
    · trivial
    · exact h.sl j s o e e2
  · rcases w j s e1 with rfl | e
    · cases m1
    · rcases w k t e2 with rfl | e'
      · cases m2
      · exact h.apart j k s t p e e' m1 m2 e3 e4
end

/-! ### the judgements -/
/-- te gives d, for good -/
def E (g : Gd) (te : TE) (G : List Sl) (d : PyData) : Prop := ∀ σ F H, Holds g G σ F H → ∀ Q : VK, (∀ v F' H', Stp F H F' H' → Dp g.K F' v d → Q v H') → te σ H Q
/-- te gives d, for the moment -/
def B (g : Gd) (te : TE) (G : List Sl) (d : PyData) : Prop := ∀ σ F H, Holds g G σ F H → ∀ Q : VK, (∀ v F' H', Stp F H F' H' → Dp g.K H' v d → Q v H') → te σ H Q
/-- te gives a new list of ours -/
def EL (g : Gd) (te : TE) (G : List Sl) (ds : List PyData) : Prop := ∀ σ F H, Holds g G σ F H → ∀ Q : VK, (∀ p vs F' H', Stp F H F' H' → H p = none → F' p = none → H' p = some (.lst vs) → DpAll g.K F' vs ds → Q (.ref p) H') → te σ H Q
def T (g : Gd) (tt : TT) (G : List Sl) (b : Bool) : Prop := ∀ σ F H, Holds g G σ F H → ∀ Q : Bool → Hp → Prop, (∀ F' H', Stp F H F' H' → Q b H') → tt σ H Q
def A (g : Gd) (ta : TA) (G : List Sl) (ds : List PyData) : Prop := ∀ σ F H, Holds g G σ F H → ∀ Q : List V → Hp → Prop, (∀ vs F' H', Stp F H F' H' → DpAll g.K F' vs ds → Q vs H') → ta σ H Q
def AB (g : Gd) (ta : TA) (G : List Sl) (ds : List PyData) : Prop := ∀ σ F H, Holds g G σ F H → ∀ Q : List V → Hp → Prop, (∀ vs F' H', Stp F H F' H' → DpAll g.K H' vs ds → Q vs H') → ta σ H Q
/-- a two-place operation on data -/
def R (g : Gd) (r : R2) (x y d : PyData) : Prop := ∀ u v F H, Sub F H → Dp g.K F u x → Dp g.K F v y → ∀ Q : VK, (∀ z F' H', Stp F H F' H' → Dp g.K F' z d → Q z H') → r u v H Q
/-- .. that makes a new list -/
def RL (g : Gd) (r : R2) (x y : PyData) (ds : List PyData) : Prop := ∀ u v F H, Sub F H → Dp g.K F u x → Dp g.K F v y → ∀ Q : VK, (∀ p vs, H p = none → DpAll g.K F vs ds → Q (.ref p) (upd H p (.lst vs))) → r u v H Q
/-- .. that asks only -/
def RB (g : Gd) (r : R2) (x y d : PyData) : Prop := ∀ u v H, Dp g.K H u x → Dp g.K H v y → ∀ Q : VK, (∀ z, Dp g.K H z d → Q z H) → r u v H Q
def C1 (g : Gd) (r : List V → Hp → VK → Prop) (xs : List PyData) (d : PyData) : Prop := ∀ vs H, DpAll g.K H vs xs → ∀ Q : VK, (∀ z, Dp g.K H z d → Q z H) → r vs H Q
section
variable {g : Gd} {G : List Sl} {te ta tb tc : TE} {tt tu : TT} {d x y z : PyData} {ds : List PyData} {i : Nat}
theorem E.b (h : E g te G d) : B g te G d := fun σ F H hh Q q => h σ F H hh Q fun v F' H' s hd => q v F' H' s (s.i.ex.dp d v hd)
theorem b_of (h : E g te G d) : B g te G d := h.b
theorem B.e (h : B g te G d) (hs : scalD d = true) : E g te G d := fun σ F H hh Q q => h σ F H hh Q fun v F' H' s hd => q v F' H' s (dp_scal hs hd)
theorem EL.e (h : EL g te G ds) : E g te G (.list ds) := fun σ F H hh Q q => h σ F H hh Q fun p vs F' H' s h0 hF hH hd => by
  have e : Ex F' (upd F' p (.lst vs)) := fun a u q _ => by rw [upd_ne (ne_of_none q hF)]; exact q
  refine q (.ref p) (upd F' p (.lst vs)) H' ⟨s.f.trans e, ⟨fun a u q n => ?_, fun a ps q => ?_⟩, s.h, s.s, s.t, fun a u q n => ?_⟩ (.lst (.inl (.inl upd_same)) (e.dps ds vs hd))
  · by_cases ha : a = p
    · subst ha; rw [upd_same] at q; cases q; exact hH
    · rw [upd_ne ha] at q; exact s.i.ex a u q n
  · by_cases ha : a = p
    · subst ha; rw [upd_same] at q; cases q
    · rw [upd_ne ha] at q; exact s.i.nt a ps q
  · rw [upd_ne (ne_of_none q h0)]; exact s.n a u q n
theorem EL.b (h : EL g te G ds) : B g te G (.list ds) := h.e.b
theorem e_var (h : G[i]? = some (.fz d)) : E g (tVar i) G d := fun σ F H hh Q q => by
  obtain ⟨o, e, v, ev, hd⟩ := hh.at_ h
  subst ev
  exact ⟨v, e, q v F H (Stp.refl hh.st.i) hd⟩
theorem b_ow (h : G[i]? = some (.ow ds)) : B g (tVar i) G (.list ds) := fun σ F H hh Q q => by
  obtain ⟨o, e, p, vs, ev, h0, hF, hH, hd⟩ := hh.at_ h
  subst ev
  exact ⟨.ref p, e, q _ F H (Stp.refl hh.st.i) (.lst (.inl (.inl hH)) (hh.st.i.ex.dps ds vs hd))⟩
theorem e_int {k : Int} : E g (tC (.int k)) G (.int k) := fun _ F H hh _ q => q _ F H (Stp.refl hh.st.i) (.int k)
theorem e_str {k : Str} : E g (tC (.str k)) G (.str k) := fun _ F H hh _ q => q _ F H (Stp.refl hh.st.i) (.str k)
theorem e_bl {k : Bool} : E g (tC (.bl k)) G (.bool k) := fun _ F H hh _ q => q _ F H (Stp.refl hh.st.i) (.bl k)
theorem e_non : E g (tC .non) G .none := fun _ F H hh _ q => q _ F H (Stp.refl hh.st.i) .non
theorem e_op {r : R2} (ha : E g ta G x) (hb : E g tb G y) (hr : R g r x y d) : E g (tOp r ta tb) G d := fun σ F H hh Q q =>
  ha σ F H hh _ fun u F1 H1 s1 d1 => hb σ F1 H1 (hh.mono s1) _ fun v F2 H2 s2 d2 => hr u v F2 H2 s2.i (s2.f.dp x u d1) d2 Q fun z F3 H3 s3 d3 => q z F3 H3 ((s1.trans s2).trans s3) d3
theorem old_free {F H F' H' : Hp} (s : Stp F H F' H') {p : Addr} (h : H' p = none) : H p = none := by
  cases z : H p with
  | none => rfl
  | some o => obtain ⟨o', e⟩ := s.s p o z; rw [h] at e; cases e
theorem el_op {r : R2} (ha : E g ta G x) (hb : E g tb G y) (hr : RL g r x y ds) : EL g (tOp r ta tb) G ds := fun σ F H hh Q q =>
  ha σ F H hh _ fun u F1 H1 s1 d1 => hb σ F1 H1 (hh.mono s1) _ fun v F2 H2 s2 d2 => hr u v F2 H2 s2.i (s2.f.dp x u d1) d2 Q fun p vs hp hd =>
    q p vs F2 _ ((s1.trans s2).trans (Stp.mine s2.i hp)) (old_free (s1.trans s2) hp) (s2.i.free hp) upd_same hd
theorem b_op {r : R2} (ha : B g ta G x) (hb : B g tb G y) (hr : RB g r x y d) (hs : scalD d = true) : E g (tOp r ta tb) G d := fun σ F H hh Q q =>
  ha σ F H hh _ fun u F1 H1 s1 d1 => hb σ F1 H1 (hh.mono s1) _ fun v F2 H2 s2 d2 => hr u v H2 (s2.h.dp x u d1) d2 Q fun z d3 => q z F2 H2 (s1.trans s2) (dp_scal hs d3)
end
end DW

namespace DW
open PySem PySem.Spec PyProof.Rows L2

/-! ### operators over several kinds -/
def rAddS : R2 := fun x y H Q => ∃ i j, x = .str i ∧ y = .str j ∧ i.length + j.length ≤ sizeLine ∧ Q (.str (i ++ j)) H
/-- list + list, both read -/
def rAddL (K : PySem.W.Frag) : R2 := fun x y H Q => ∃ l b xs zs, x = .ref l ∧ y = .ref b ∧ SqL K H l xs ∧ SqL K H b zs ∧ xs.length + zs.length ≤ sizeLine ∧ ∀ p, H p = none → Q (.ref p) (upd H p (.lst (xs ++ zs)))
theorem op_catL {X : Cx} : OpR X (binaryOp .Add) (rAddL X.K) := by
  intro pins s σ H x y v u Q I rx ry h
  obtain ⟨l, b, xs, zs, rfl, rfl, hH, hB, hz, q⟩ := h
  cases rx
  cases ry
  obtain ⟨its, r, pl, z⟩ := I.list hH
  obtain ⟨its2, r2, pl2, z2⟩ := I.list hB
  have l1 := r.length
  have l2 := r2.length
  obtain ⟨⟨cls, dd, data, sl⟩, ho, hc, n, hd⟩ := id pl.isList
  obtain ⟨⟨cls2, dd2, data2, sl2⟩, ho2, hc2, n2, hd2⟩ := id pl2.isList
  simp only at hc hd hc2 hd2
  subst hc hd hc2 hd2
  have e : its.toArray ++ its2.toArray = (its ++ its2).toArray := by simp
  refine concat_meets ⟨_, ho, rfl⟩ ⟨_, ho2, rfl⟩ noFill_list_add seq_list_add PySem.F.slot_list_add PySem.F.entry_list_add (PySem.F.args_list_add_2 _ _) (list_addW l b its.toArray its2.toArray n n2 dd dd2 sl sl2 (by simp only [List.size_toArray]; omega)) ⟨ho, ho2, ?_⟩
  rw [e]
  exact ⟨.ref _, _, I.lnew (t' := s.toks) (r.append r2) (by rw [List.length_append]; omega), rfl, q _ I.fresh⟩
abbrev rAddU (K : PySem.W.Frag) : R2 := fun x y H Q => rI0 (fun i j => .int (i + j)) x y H Q ∨ (rAddS x y H Q ∨ (rAddL K x y H Q ∨ rCatT K x y H Q))
theorem uAdd {X : Cx} : OpR X (binaryOp .Add) (rAddU X.K) := op_add.or (op_add_str.or (op_catL.or op_catT))
/-- text * int -/
def mulS (x : Str) (n : Int) : Str := if n < 1 then Str.empty else if (n == 1 || x.length == 0) = true then x else ⟨(List.replicate n.toNat x.cps).foldl (· ++ ·) #[]⟩
def rMulS : R2 := fun x y H Q => ∃ i n, x = .str i ∧ y = .int n ∧ 0 ≤ n ∧ n ≤ 1000 ∧ i.length ≤ 1000 ∧ Q (.str (mulS i n)) H
theorem op_mulS {X : Cx} : OpR X (binaryOp .Mult) rMulS := by
  intro pins s σ H x y v u Q I rx ry h
  obtain ⟨i, n, rfl, rfl, h0, h1, hl, q⟩ := h
  obtain ⟨t, rfl⟩ := rx
  obtain ⟨t', rfl⟩ := ry
  have e1 : (decide (n < -(2 ^ 63 : Int)) || decide (n ≥ 2 ^ 63)) = false := by
    rw [decide_eq_false (by omega), decide_eq_false (by omega)]; rfl
  have ht : Builtin.Str.tooLong (i.length * n.toNat) = false := by
    have h3 : i.length * n.toNat ≤ 1000 * 1000 := Nat.mul_le_mul hl (by omega)
    have h4 : sizeLine = 16777216 := sizeLine_eq
    unfold Builtin.Str.tooLong
    exact decide_eq_false (by omega)
  refine PySem.P.mul_str e1 (fun h _ => ?_) (fun h _ => ?_) ?_
  · have h2 : (i.length : Int) * n ≤ 1000 * 1000 := Int.mul_le_mul (by omega) h1 h0 (by decide)
    have h3 : (i.length : Int) ≤ (2 ^ 63 - 1) / n := Int.le_ediv_of_mul_le (by omega) (Int.le_trans h2 (by decide))
    omega
  · exact ht
  · unfold mulS at q
    split
    · rename_i hh; rw [if_pos hh] at q; exact ⟨by decide, ⟨.str _, H, I.tok _, ⟨_, rfl⟩, q⟩⟩
    · rename_i hh; rw [if_neg hh] at q
      split
      · rename_i h4; rw [if_pos h4] at q; exact ⟨.str _, H, I, ⟨_, rfl⟩, q⟩
      · rename_i h4; rw [if_neg h4] at q; exact ⟨fits_reps ht, ⟨.str _, H, I.tok _, ⟨_, rfl⟩, q⟩⟩
abbrev rMulU : R2 := fun x y H Q => rI CMul (fun i j => .int (i * j)) x y H Q ∨ rMulS x y H Q
theorem uMul {X : Cx} : OpR X (binaryOp .Mult) rMulU := op_mul.or op_mulS
def rLtS : R2 := fun x y H Q => ∃ i j, x = .str i ∧ y = .str j ∧ Q (.bl (decide (i.cps.toList < j.cps.toList))) H
abbrev rLtU : R2 := fun x y H Q => rI0 (fun i j => .bl (decide (i < j))) x y H Q ∨ rLtS x y H Q
theorem uLt {X : Cx} : OpR X (compareOp .Lt) rLtU := op_lt.or op_lt_str
def rInSg : R2 := fun x y H Q => ∃ (c : Nat) (z : Str), x = .str ⟨#[c]⟩ ∧ y = .str z ∧ Q (.bl (decide (c ∈ z.cps.toList))) H
def rNiSg : R2 := fun x y H Q => ∃ (c : Nat) (z : Str), x = .str ⟨#[c]⟩ ∧ y = .str z ∧ Q (.bl (!decide (c ∈ z.cps.toList))) H
abbrev rInU (K : PySem.W.Frag) : R2 := fun x y H Q => rIn K false x y H Q ∨ rInSg x y H Q
abbrev rNiU (K : PySem.W.Frag) : R2 := fun x y H Q => rIn K true x y H Q ∨ rNiSg x y H Q
theorem uIn {X : Cx} : OpR X (compareOp .In) (rInU X.K) := op_in_seq.or op_in_sign
theorem uNi {X : Cx} : OpR X (compareOp .NotIn) (rNiU X.K) := op_notIn_seq.or op_notIn_sign

section
variable {g : Gd} {G : List Sl} {te ta tb tc : TE} {tt tu : TT} {d x y z : PyData} {ds es : List PyData} {i : Nat}
theorem add_i {a b : Int} : R g (rAddU g.K) (.int a) (.int b) (.int (a + b)) := fun u v F H e hu hv Q q => by
  cases hu; cases hv
  exact .inl ⟨a, b, rfl, rfl, q _ F H (Stp.refl e) (.int _)⟩
theorem add_s {a b : Str} (h : a.length + b.length ≤ 100000) : R g (rAddU g.K) (.str a) (.str b) (.str (a ++ b)) := fun u v F H e hu hv Q q => by
  cases hu; cases hv
  exact .inr (.inl ⟨a, b, rfl, rfl, Nat.le_trans h (by decide), q _ F H (Stp.refl e) (.str _)⟩)
theorem add_l (h : ds.length + es.length ≤ 100000) : RL g (rAddU g.K) (.list ds) (.list es) (ds ++ es) := fun u v F H e hu hv Q q => by
  obtain ⟨a, vs, rfl, h1, h2⟩ := dp_sq hu
  obtain ⟨b, ws, rfl, h3, h4⟩ := dp_sq hv
  exact .inr (.inr (.inl ⟨a, b, vs, ws, rfl, rfl, e.ex.l h1, e.ex.l h3, by rw [dps_len h2, dps_len h4]; exact Nat.le_trans h (by decide), fun p hp => q p _ hp (dps_app h2 h4)⟩))
theorem sub_i {a b : Int} : R g (rI0 fun i j => .int (i - j)) (.int a) (.int b) (.int (a - b)) := fun u v F H e hu hv Q q => by
  cases hu; cases hv
  exact ⟨a, b, rfl, rfl, q _ F H (Stp.refl e) (.int _)⟩
theorem mul_i {a b : Int} (h : CMul a b) : R g rMulU (.int a) (.int b) (.int (a * b)) := fun u v F H e hu hv Q q => by
  cases hu; cases hv
  exact .inl ⟨a, b, rfl, rfl, h, q _ F H (Stp.refl e) (.int _)⟩
theorem mul_s {a : Str} {b : Int} (h0 : 0 ≤ b) (h1 : b ≤ 1000) (hl : a.length ≤ 1000) : R g rMulU (.str a) (.int b) (.str (mulS a b)) := fun u v F H e hu hv Q q => by
  cases hu; cases hv
  exact .inr ⟨a, b, rfl, rfl, h0, h1, hl, q _ F H (Stp.refl e) (.str _)⟩
theorem div_i {a b : Int} (h : 0 < b) (h2 : b < 1073741824) : R g (rI CDiv fun i j => .int (i / j)) (.int a) (.int b) (.int (a / b)) := fun u v F H e hu hv Q q => by
  cases hu; cases hv
  exact ⟨a, b, rfl, rfl, ⟨h, h2⟩, q _ F H (Stp.refl e) (.int _)⟩
theorem mod_i {a b : Int} (h : 0 < b) : R g (rI (fun _ j => 0 < j) fun i j => .int (i % j)) (.int a) (.int b) (.int (a % b)) := fun u v F H e hu hv Q q => by
  cases hu; cases hv
  exact ⟨a, b, rfl, rfl, h, q _ F H (Stp.refl e) (.int _)⟩
theorem pow_i {a b : Int} (h : CPow a b) : R g (rI CPow fun i j => .int (i ^ j.toNat)) (.int a) (.int b) (.int (a ^ b.toNat)) := fun u v F H e hu hv Q q => by
  cases hu; cases hv
  exact ⟨a, b, rfl, rfl, h, q _ F H (Stp.refl e) (.int _)⟩
theorem lt_i {a b : Int} : RB g rLtU (.int a) (.int b) (.bool (decide (a < b))) := fun u v H hu hv Q q => by
  cases hu; cases hv
  exact .inl ⟨a, b, rfl, rfl, q _ (.bl _)⟩
theorem lt_s {a b : Str} : RB g rLtU (.str a) (.str b) (.bool (decide (a.cps.toList < b.cps.toList))) := fun u v H hu hv Q q => by
  cases hu; cases hv
  exact .inr ⟨a, b, rfl, rfl, q _ (.bl _)⟩
theorem le_i {a b : Int} : RB g (rI0 fun i j => .bl (decide (i ≤ j))) (.int a) (.int b) (.bool (decide (a ≤ b))) := fun u v H hu hv Q q => by
  cases hu; cases hv
  exact ⟨a, b, rfl, rfl, q _ (.bl _)⟩
theorem gt_i {a b : Int} : RB g (rI0 fun i j => .bl (decide (j < i))) (.int a) (.int b) (.bool (decide (b < a))) := fun u v H hu hv Q q => by
  cases hu; cases hv
  exact ⟨a, b, rfl, rfl, q _ (.bl _)⟩
theorem ge_i {a b : Int} : RB g (rI0 fun i j => .bl (decide (j ≤ i))) (.int a) (.int b) (.bool (decide (b ≤ a))) := fun u v H hu hv Q q => by
  cases hu; cases hv
  exact ⟨a, b, rfl, rfl, q _ (.bl _)⟩
theorem eq_d (hx : SeqAt.shaped x = true) (hy : SeqAt.shaped y = true) : RB g (rEqD g.K) x y (.bool (PyData.eqv x y)) := fun u v H hu hv Q q => ⟨x, y, hu, hv, hx, hy, q _ (.bl _)⟩
theorem ne_d (hx : SeqAt.shaped x = true) (hy : SeqAt.shaped y = true) : RB g (rNeD g.K) x y (.bool (!PyData.eqv x y)) := fun u v H hu hv Q q => ⟨x, y, hu, hv, hx, hy, q _ (.bl _)⟩
/-- the V of a flat datum -/
def flD : PyData → V
  | .none => .non
  | .bool b => .bl b
  | .int i => .int i
  | .str s => .str s
  | _ => .non
theorem fl_of {K : PySem.W.Frag} {H : Hp} {v : V} : ∀ {d : PyData}, scalD d = true → Dp K H v d → v = flD d ∧ flatV v = true
  | .none, _, h => by cases h; exact ⟨rfl, rfl⟩
  | .bool b, _, h => by cases h; exact ⟨rfl, rfl⟩
  | .int i, _, h => by cases h; exact ⟨rfl, rfl⟩
  | .str x, _, h => by cases h; exact ⟨rfl, rfl⟩
  | .list _, e, _ => by cases e
  | .tuple _, e, _ => by cases e
  | .dict _, e, _ => by cases e
theorem fls_of {K : PySem.W.Frag} {H : Hp} : ∀ {vs : List V} {ds : List PyData}, ds.all scalD = true → DpAll K H vs ds → vs = ds.map flD ∧ vs.all flatV = true
  | _, _, _, .nil => ⟨rfl, rfl⟩
  | _, _, e, .cons h t => by
    rw [List.all_cons, Bool.and_eq_true] at e
    obtain ⟨e1, e2⟩ := fl_of e.1 h
    obtain ⟨e3, e4⟩ := fls_of e.2 t
    exact ⟨by rw [e1, e3]; rfl, by rw [List.all_cons, e2, e4]; rfl⟩
def inD (x : PyData) (ds : List PyData) : Bool := inV (flD x) (ds.map flD)
theorem in_l (hx : scalD x = true) (hd : ds.all scalD = true) : RB g (rInU g.K) x (.list ds) (.bool (inD x ds)) := fun u v H hu hv Q q => by
  obtain ⟨a, vs, rfl, h1, h2⟩ := dp_sq hv
  obtain ⟨e1, f1⟩ := fl_of hx hu
  obtain ⟨e2, f2⟩ := fls_of hd h2
  refine .inl ⟨a, vs, rfl, .inl h1, f1, f2, ?_⟩
  rw [e1, e2]; exact q _ (.bl _)
theorem in_t (hx : scalD x = true) (hd : ds.all scalD = true) : RB g (rInU g.K) x (.tuple ds) (.bool (inD x ds)) := fun u v H hu hv Q q => by
  obtain ⟨a, vs, rfl, h1, h2⟩ := dp_tq hv
  obtain ⟨e1, f1⟩ := fl_of hx hu
  obtain ⟨e2, f2⟩ := fls_of hd h2
  refine .inl ⟨a, vs, rfl, .inr h1, f1, f2, ?_⟩
  rw [e1, e2]; exact q _ (.bl _)
theorem ni_l (hx : scalD x = true) (hd : ds.all scalD = true) : RB g (rNiU g.K) x (.list ds) (.bool (!inD x ds)) := fun u v H hu hv Q q => by
  obtain ⟨a, vs, rfl, h1, h2⟩ := dp_sq hv
  obtain ⟨e1, f1⟩ := fl_of hx hu
  obtain ⟨e2, f2⟩ := fls_of hd h2
  refine .inl ⟨a, vs, rfl, .inl h1, f1, f2, ?_⟩
  rw [e1, e2]; exact q _ (.bl _)
theorem ni_t (hx : scalD x = true) (hd : ds.all scalD = true) : RB g (rNiU g.K) x (.tuple ds) (.bool (!inD x ds)) := fun u v H hu hv Q q => by
  obtain ⟨a, vs, rfl, h1, h2⟩ := dp_tq hv
  obtain ⟨e1, f1⟩ := fl_of hx hu
  obtain ⟨e2, f2⟩ := fls_of hd h2
  refine .inl ⟨a, vs, rfl, .inr h1, f1, f2, ?_⟩
  rw [e1, e2]; exact q _ (.bl _)
theorem in_sg {c : Nat} {z : Str} : RB g (rInU g.K) (.str ⟨#[c]⟩) (.str z) (.bool (decide (c ∈ z.cps.toList))) := fun u v H hu hv Q q => by
  cases hu; cases hv
  exact .inr ⟨c, z, rfl, rfl, q _ (.bl _)⟩
theorem ni_sg {c : Nat} {z : Str} : RB g (rNiU g.K) (.str ⟨#[c]⟩) (.str z) (.bool (!decide (c ∈ z.cps.toList))) := fun u v H hu hv Q q => by
  cases hu; cases hv
  exact .inr ⟨c, z, rfl, rfl, q _ (.bl _)⟩
/-- an item -/
theorem ix_l {k : Int} (h : atI ds k = some d) : R g (rIx g.K) (.list ds) (.int k) d := fun u v F H e hu hv Q q => by
  obtain ⟨a, vs, rfl, h1, h2⟩ := dp_sq hu
  cases hv
  unfold atI at h
  rw [← dps_len h2] at h
  cases hi : ixN vs.length k with
  | none => rw [hi] at h; cases h
  | some j =>
    rw [hi] at h
    obtain ⟨w, e1, e2⟩ := dps_get h2 (show ds[j]? = some d from h)
    exact .inl ⟨a, vs, k, w, rfl, rfl, e.ex.l h1, by unfold atI; rw [hi]; exact e1, q w F H (Stp.refl e) e2⟩
theorem ix_t {k : Int} (h : atI ds k = some d) : R g (rIx g.K) (.tuple ds) (.int k) d := fun u v F H e hu hv Q q => by
  obtain ⟨a, vs, rfl, h1, h2⟩ := dp_tq hu
  cases hv
  unfold atI at h
  rw [← dps_len h2] at h
  cases hi : ixN vs.length k with
  | none => rw [hi] at h; cases h
  | some j =>
    rw [hi] at h
    obtain ⟨w, e1, e2⟩ := dps_get h2 (show ds[j]? = some d from h)
    exact .inr (.inl ⟨a, vs, k, w, rfl, rfl, e.ex.t h1, by unfold atI; rw [hi]; exact e1, q w F H (Stp.refl e) e2⟩)
theorem ix_s {s : Str} {k : Int} {c : Nat} (hl : s.length ≤ 100000) (h : atI s.cps.toList k = some c) : R g (rIx g.K) (.str s) (.int k) (.str ⟨#[c]⟩) := fun u v F H e hu hv Q q => by
  cases hu; cases hv
  exact .inr (.inr ⟨s, k, c, rfl, rfl, Nat.le_trans hl (by decide), h, q _ F H (Stp.refl e) (.str _)⟩)
/-- an item of our own list -/
theorem e_ixo {j : Nat} {k : Int} (h : G[j]? = some (.ow ds)) (hb : E g tb G (.int k)) (hk : atI ds k = some d) : E g (tOp (rIx g.K) (tVar j) tb) G d := fun σ F H hh Q q => by
  obtain ⟨o, e, p, vs, ev, h0, hF, hH, hd⟩ := hh.at_ h
  subst ev
  refine ⟨.ref p, e, hb σ F H hh _ fun v F1 H1 s1 d1 => ?_⟩
  cases d1
  unfold atI at hk
  rw [← dps_len hd] at hk
  cases hi : ixN vs.length k with
  | none => rw [hi] at hk; cases hk
  | some j =>
    rw [hi] at hk
    obtain ⟨w, e1, e2⟩ := dps_get hd (show ds[j]? = some d from hk)
    exact .inl ⟨p, vs, k, w, rfl, rfl, .inl (.inl (s1.h.lst hH)), by unfold atI; rw [hi]; exact e1, q w F1 H1 s1 (s1.f.dp d w e2)⟩

/-! ### unary, and, or, not, if -/
theorem e_neg {k : Int} (h : E g te G (.int k)) : E g (tUn (rU fun i => .int (-i)) te) G (.int (-k)) := fun σ F H hh Q q =>
  h σ F H hh _ fun v F1 H1 s1 d1 => by cases d1; exact ⟨k, rfl, q _ F1 H1 s1 (.int _)⟩
theorem t_test {b : Bool} (h : E g te G (.bool b)) : T g (tTest te) G b := fun σ F H hh Q q => h σ F H hh _ fun v F1 H1 s1 d1 => by cases d1; exact ⟨b, rfl, q F1 H1 s1⟩
theorem t_B {b : Bool} (h : E g te G (.bool b)) : T g (tB te) G b := fun σ F H hh Q q => h σ F H hh _ fun v F1 H1 s1 d1 => by cases d1; exact ⟨b, rfl, q F1 H1 s1⟩
theorem t_and {a b : Bool} (h1 : T g tt G a) (h2 : a = true → T g tu G b) : T g (tAnd tt tu) G (a && b) := fun σ F H hh Q q => h1 σ F H hh _ fun F1 H1 s1 => by
  cases a with
  | true => exact h2 rfl σ F1 H1 (hh.mono s1) Q fun F2 H2 s2 => q F2 H2 (s1.trans s2)
  | false => exact q F1 H1 s1
theorem t_or {a b : Bool} (h1 : T g tt G a) (h2 : a = false → T g tu G b) : T g (tOr tt tu) G (a || b) := fun σ F H hh Q q => h1 σ F H hh _ fun F1 H1 s1 => by
  cases a with
  | true => exact q F1 H1 s1
  | false => exact h2 rfl σ F1 H1 (hh.mono s1) Q fun F2 H2 s2 => q F2 H2 (s1.trans s2)
theorem t_not {a : Bool} (h1 : T g tt G a) : T g (tNot tt) G (!a) := fun σ F H hh Q q => h1 σ F H hh _ fun F1 H1 s1 => q F1 H1 s1
theorem e_andV {a b : Bool} (h1 : E g ta G (.bool a)) (h2 : a = true → E g tb G (.bool b)) : E g (tAndV ta tb) G (.bool (a && b)) := fun σ F H hh Q q => h1 σ F H hh _ fun v F1 H1 s1 d1 => by
  cases d1
  refine ⟨a, rfl, ?_⟩
  cases a with
  | true => exact h2 rfl σ F1 H1 (hh.mono s1) Q fun v F2 H2 s2 => q v F2 H2 (s1.trans s2)
  | false => exact q _ F1 H1 s1 (.bl false)
theorem e_orV {a b : Bool} (h1 : E g ta G (.bool a)) (h2 : a = false → E g tb G (.bool b)) : E g (tOrV ta tb) G (.bool (a || b)) := fun σ F H hh Q q => h1 σ F H hh _ fun v F1 H1 s1 d1 => by
  cases d1
  refine ⟨a, rfl, ?_⟩
  cases a with
  | true => exact q _ F1 H1 s1 (.bl true)
  | false => exact h2 rfl σ F1 H1 (hh.mono s1) Q fun v F2 H2 s2 => q v F2 H2 (s1.trans s2)
theorem e_if {b : Bool} (h : T g tt G b) (h1 : b = true → E g ta G d) (h2 : b = false → E g tb G d) : E g (tIf tt ta tb) G d := fun σ F H hh Q q => h σ F H hh _ fun F1 H1 s1 => by
  cases b with
  | true => exact h1 rfl σ F1 H1 (hh.mono s1) Q fun v F2 H2 s2 => q v F2 H2 (s1.trans s2)
  | false => exact h2 rfl σ F1 H1 (hh.mono s1) Q fun v F2 H2 s2 => q v F2 H2 (s1.trans s2)
theorem e_chain {r r' : R2} {a b : Bool} (ha : B g ta G x) (hb : B g tb G y) (hc : a = true → B g tc G z) (h1 : RB g r x y (.bool a)) (h2 : a = true → RB g r' y z (.bool b)) : E g (tChain r r' ta tb tc) G (.bool (a && b)) := fun σ F H hh Q q =>
  ha σ F H hh _ fun u F1 H1 s1 d1 => hb σ F1 H1 (hh.mono s1) _ fun v F2 H2 s2 d2 => h1 u v H2 (s2.h.dp x u d1) d2 _ fun w dw => by
    cases dw
    refine ⟨a, rfl, ?_⟩
    cases a with
    | true => exact hc rfl σ F2 H2 ((hh.mono s1).mono s2) _ fun u3 F3 H3 s3 d3 => h2 rfl v u3 H3 (s3.h.dp y v d2) d3 Q fun w' dw' => by cases dw'; exact q _ F3 H3 ((s1.trans s2).trans s3) (.bl _)
    | false => exact q _ F2 H2 (s1.trans s2) (.bl false)
/-- truth -/
def truD : PyData → Option Bool
  | .none => some false
  | .bool b => some b
  | .int i => some (i != 0)
  | .str s => if s.length ≤ 100000 then some ((s.length : Int) != 0) else none
  | .list ds => some (!ds.isEmpty)
  | .tuple ds => some (!ds.isEmpty)
  | .dict _ => none
theorem isEmpty_dps {K : PySem.W.Frag} {F : Hp} {vs : List V} {ds : List PyData} (h : DpAll K F vs ds) : vs.isEmpty = ds.isEmpty := by cases h <;> rfl
theorem tru_of {K : PySem.W.Frag} {H : Hp} {v : V} {b : Bool} : ∀ {d : PyData}, truD d = some b → Dp K H v d → TruV K v H b
  | .none, e, h => by cases h; exact (Option.some.inj e).symm
  | .bool _, e, h => by cases h; exact (Option.some.inj e).symm
  | .int _, e, h => by cases h; exact (Option.some.inj e).symm
  | .str s, e, h => by
    cases h
    have e' : (if s.length ≤ 100000 then some ((s.length : Int) != 0) else none) = some b := e
    by_cases hl : s.length ≤ 100000
    · rw [if_pos hl] at e'; exact ⟨Nat.le_trans hl (by decide), (Option.some.inj e').symm⟩
    · rw [if_neg hl] at e'; cases e'
  | .list _, e, h => by
    obtain ⟨a, vs, rfl, h1, h2⟩ := dp_sq h
    exact .inl ⟨vs, h1, by rw [isEmpty_dps h2]; exact (Option.some.inj e).symm⟩
  | .tuple _, e, h => by
    obtain ⟨a, vs, rfl, h1, h2⟩ := dp_tq h
    exact .inr (.inl ⟨vs, h1, by rw [isEmpty_dps h2]; exact (Option.some.inj e).symm⟩)
  | .dict _, e, _ => by cases e
theorem t_truth {b : Bool} (h : B g te G d) (e : truD d = some b) : T g (fun σ H Q => te σ H fun x H' => ∃ k, TruV g.K x H' k ∧ Q k H') G b := fun σ F H hh Q q =>
  h σ F H hh _ fun v F1 H1 s1 d1 => ⟨b, tru_of e d1, q F1 H1 s1⟩
theorem e_notT {b : Bool} (h : B g te G d) (e : truD d = some b) : E g (tNotT g.K te) G (.bool (!b)) := fun σ F H hh Q q =>
  h σ F H hh _ fun v F1 H1 s1 d1 => ⟨b, tru_of e d1, q _ F1 H1 s1 (.bl _)⟩

/-! ### arguments, displays, calls -/
theorem a_nil : A g tNil G [] := fun σ F H hh Q q => q [] F H (Stp.refl hh.st.i) .nil
theorem a_cons {tr : TA} (h : E g te G d) (hr : A g tr G ds) : A g (tCons te tr) G (d :: ds) := fun σ F H hh Q q =>
  h σ F H hh _ fun v F1 H1 s1 d1 => hr σ F1 H1 (hh.mono s1) _ fun vs F2 H2 s2 d2 => q (v :: vs) F2 H2 (s1.trans s2) (.cons (s2.f.dp d v d1) d2)
theorem ab_nil : AB g tNil G [] := fun σ F H hh Q q => q [] F H (Stp.refl hh.st.i) .nil
theorem ab_cons {tr : TA} (h : B g te G d) (hr : AB g tr G ds) : AB g (tCons te tr) G (d :: ds) := fun σ F H hh Q q =>
  h σ F H hh _ fun v F1 H1 s1 d1 => hr σ F1 H1 (hh.mono s1) _ fun vs F2 H2 s2 d2 => q (v :: vs) F2 H2 (s1.trans s2) (.cons (s2.h.dp d v d1) d2)
theorem e_tup {ta : TA} (h : A g ta G ds) (hl : ds.length ≤ 100000) : E g (tTup ta) G (.tuple ds) := fun σ F H hh Q q => h σ F H hh _ fun vs F1 H1 s1 d1 =>
  ⟨by rw [dps_len d1]; exact Nat.le_trans hl (by decide), fun p hp => by
    have st := Stp.new (o := .tup vs) s1.i hp fun _ z => by cases z
    exact q (.ref p) _ _ (s1.trans st) (.tup (.inl (.inl upd_same)) (st.f.dps ds vs d1))⟩
theorem el_lst {ta : TA} (h : A g ta G ds) (hl : ds.length ≤ 100000) : EL g (tLst ta) G ds := fun σ F H hh Q q => h σ F H hh _ fun vs F1 H1 s1 d1 =>
  ⟨by rw [dps_len d1]; exact Nat.le_trans hl (by decide), fun p hp => q p vs F1 _ (s1.trans (Stp.mine s1.i hp)) (old_free s1 hp) (s1.i.free hp) upd_same d1⟩
theorem b_cb {r : List V → Hp → VK → Prop} {ta : TA} (h : AB g ta G ds) (hr : C1 g r ds d) (hs : scalD d = true) : E g (tCB r ta) G d := fun σ F H hh Q q => h σ F H hh _ fun vs F1 H1 s1 d1 =>
  hr vs H1 d1 Q fun z dz => q z F1 H1 s1 (dp_scal hs dz)
theorem ab_one {vs : List V} {H : Hp} {K : PySem.W.Frag} (h : DpAll K H vs [d]) : ∃ v, vs = [v] ∧ Dp K H v d := by
  cases h with
  | cons h t => cases t; exact ⟨_, rfl, h⟩
def rLenU (K : PySem.W.Frag) : List V → Hp → VK → Prop := fun xs H Q => ∃ x n, xs = [x] ∧ LenV K x H n ∧ Q (.int n) H
theorem uLen {X : Cx} : CallR X (.builtin "len") (rLenU X.K) := call_len
theorem len_l : C1 g (rLenU g.K) [.list ds] (.int ds.length) := fun vs H h Q q => by
  obtain ⟨v, rfl, hw⟩ := ab_one h
  obtain ⟨a, ws, rfl, h1, h2⟩ := dp_sq hw
  exact ⟨_, ds.length, rfl, .inl ⟨ws, h1, (dps_len h2).symm⟩, q _ (.int _)⟩
theorem len_t : C1 g (rLenU g.K) [.tuple ds] (.int ds.length) := fun vs H h Q q => by
  obtain ⟨v, rfl, hw⟩ := ab_one h
  obtain ⟨a, ws, rfl, h1, h2⟩ := dp_tq hw
  exact ⟨_, ds.length, rfl, .inr ⟨ws, h1, (dps_len h2).symm⟩, q _ (.int _)⟩
theorem len_s {s : Str} (hl : s.length ≤ 100000) : C1 g (rLenU g.K) [.str s] (.int s.length) := fun vs H h Q q => by
  obtain ⟨v, rfl, hw⟩ := ab_one h
  cases hw
  exact ⟨_, s.length, rfl, ⟨Nat.le_trans hl (by decide), rfl⟩, q _ (.int _)⟩
def rIntU : List V → Hp → VK → Prop := fun xs H Q => (∃ i, xs = [.int i] ∧ Q (.int i) H) ∨ ∃ k, xs = [.bl k] ∧ Q (.int (if k then 1 else 0)) H
theorem uInt {X : Cx} : CallR X (.type "int") rIntU := call_int1
theorem int_i {k : Int} : C1 g rIntU [.int k] (.int k) := fun vs H h Q q => by
  obtain ⟨v, rfl, hw⟩ := ab_one h
  cases hw
  exact .inl ⟨k, rfl, q _ (.int _)⟩
/-- list(xs), tuple(xs) -/
def rListU (K : PySem.W.Frag) : List V → Hp → VK → Prop := fun xs H Q => ∃ p ys, xs = [.ref p] ∧ (SqL K H p ys ∨ SqT K H p ys) ∧ ∀ l, H l = none → Q (.ref l) (upd H l (.lst ys))
theorem uList {X : Cx} : CallR X (.type "list") (rListU X.K) := call_list_of
theorem el_list (h : E g te G (.list ds)) : EL g (tCB (rListU g.K) (tCons te tNil)) G ds := fun σ F H hh Q q => h σ F H hh _ fun v F1 H1 s1 d1 => by
  obtain ⟨a, vs, rfl, h1, h2⟩ := dp_sq d1
  exact ⟨a, vs, rfl, .inl (s1.i.ex.l h1), fun p hp => q p vs F1 _ (s1.trans (Stp.mine s1.i hp)) (old_free s1 hp) (s1.i.free hp) upd_same h2⟩
theorem el_listT (h : E g te G (.tuple ds)) : EL g (tCB (rListU g.K) (tCons te tNil)) G ds := fun σ F H hh Q q => h σ F H hh _ fun v F1 H1 s1 d1 => by
  obtain ⟨a, vs, rfl, h1, h2⟩ := dp_tq d1
  exact ⟨a, vs, rfl, .inr (s1.i.ex.t h1), fun p hp => q p vs F1 _ (s1.trans (Stp.mine s1.i hp)) (old_free s1 hp) (s1.i.free hp) upd_same h2⟩
theorem el_listO {j : Nat} (h : G[j]? = some (.ow ds)) : EL g (tCB (rListU g.K) (tCons (tVar j) tNil)) G ds := fun σ F H hh Q q => by
  obtain ⟨o, e, p, vs, ev, h0, hF, hH, hd⟩ := hh.at_ h
  subst ev
  exact ⟨.ref p, e, p, vs, rfl, .inl (.inl (.inl hH)), fun l hl => q l vs F _ (Stp.mine hh.st.i hl) hl (hh.st.i.free hl) upd_same hd⟩
def rTupU (K : PySem.W.Frag) : List V → Hp → VK → Prop := fun xs H Q => ∃ p ys, xs = [.ref p] ∧ ((SqL K H p ys ∧ ∀ l, H l = none → Q (.ref l) (upd H l (.tup ys))) ∨ (SqT K H p ys ∧ Q (.ref p) H))
theorem uTup {X : Cx} : CallR X (.type "tuple") (rTupU X.K) := call_tuple_of
theorem e_tupL (h : EL g te G ds) : E g (tCB (rTupU g.K) (tCons te tNil)) G (.tuple ds) := fun σ F H hh Q q => h σ F H hh _ fun p vs F1 H1 s1 h0 hF hH d1 =>
  ⟨p, vs, rfl, .inl ⟨.inl (.inl hH), fun l hl => by
    have st := Stp.new (o := .tup vs) s1.i hl fun _ z => by cases z
    exact q (.ref l) _ _ (s1.trans st) (.tup (.inl (.inl upd_same)) (st.f.dps ds vs d1))⟩⟩
theorem e_tupT (h : E g te G (.tuple ds)) : E g (tCB (rTupU g.K) (tCons te tNil)) G (.tuple ds) := fun σ F H hh Q q => h σ F H hh _ fun v F1 H1 s1 d1 => by
  obtain ⟨a, vs, rfl, h1, h2⟩ := dp_tq d1
  exact ⟨a, vs, rfl, .inr ⟨s1.i.ex.t h1, q _ F1 H1 s1 (.tup h1 h2)⟩⟩
/-! slices -/
def cutD (ds : List PyData) (lo hi : Option Int) : List PyData := (ds.drop (HT.sIx ds.length 0 lo)).take (HT.sIx ds.length ds.length hi - HT.sIx ds.length 0 lo)
def O (g : Gd) (to : TO) (G : List Sl) (o : Option Int) : Prop := ∀ σ F H, Holds g G σ F H → ∀ Q : Option Int → Hp → Prop, (∀ F' H', Stp F H F' H' → Q o H') → to σ H Q
theorem o_none : O g tNoPart G none := fun σ F H hh Q q => q F H (Stp.refl hh.st.i)
theorem o_some {k : Int} (h : E g te G (.int k)) : O g (tPart te) G (some k) := fun σ F H hh Q q => h σ F H hh _ fun v F1 H1 s1 d1 => by cases d1; exact ⟨k, rfl, q F1 H1 s1⟩
def rSlU (K : PySem.W.Frag) : V → Option Int → Option Int → Hp → VK → Prop := fun x lo hi H Q => rSlL K x lo hi H Q ∨ rSlS x lo hi H Q
theorem SlR.or {X : Cx} {r r' : V → Option Int → Option Int → Hp → VK → Prop} (h : SlR X r) (h' : SlR X r') : SlR X (fun x lo hi H Q => r x lo hi H Q ∨ r' x lo hi H Q) := by
  intro pins s σ H x v vl vu lo hi sl Q I rx hs pl pu hq
  rcases hq with hq | hq
  · exact h pins s σ H x v vl vu lo hi sl Q I rx hs pl pu hq
  · exact h' pins s σ H x v vl vu lo hi sl Q I rx hs pl pu hq
theorem uSl {X : Cx} : SlR X (rSlU X.K) := SlR.or sl_list sl_str
theorem cut_dps {K : PySem.W.Frag} {F : Hp} {vs : List V} {lo hi : Option Int} (h : DpAll K F vs ds) : DpAll K F (cutV vs lo hi) (cutD ds lo hi) := by
  unfold cutV cutD
  rw [dps_len h]
  exact dps_take _ (dps_drop _ h)
theorem el_sl {to tp : TO} {lo hi : Option Int} (h : E g te G (.list ds)) (hl : O g to G lo) (hu : O g tp G hi) : EL g (tSl (rSlU g.K) te to tp) G (cutD ds lo hi) := fun σ F H hh Q q =>
  h σ F H hh _ fun v F1 H1 s1 d1 => hl σ F1 H1 (hh.mono s1) _ fun F2 H2 s2 => hu σ F2 H2 ((hh.mono s1).mono s2) _ fun F3 H3 s3 => by
    obtain ⟨a, vs, rfl, h1, h2⟩ := dp_sq (s3.f.dp _ v (s2.f.dp _ v d1))
    have ss := (s1.trans s2).trans s3
    exact .inl ⟨a, vs, rfl, s3.i.ex.l h1, fun p hp => q p _ F3 _ (ss.trans (Stp.mine s3.i hp)) (old_free ss hp) (s3.i.free hp) upd_same (cut_dps h2)⟩
theorem e_slS {to tp : TO} {lo hi : Option Int} {s : Str} (h : E g te G (.str s)) (hz : s.length ≤ 100000) (hl : O g to G lo) (hu : O g tp G hi) : E g (tSl (rSlU g.K) te to tp) G (.str (cutS s lo hi)) := fun σ F H hh Q q =>
  h σ F H hh _ fun v F1 H1 s1 d1 => hl σ F1 H1 (hh.mono s1) _ fun F2 H2 s2 => hu σ F2 H2 ((hh.mono s1).mono s2) _ fun F3 H3 s3 => by
    cases d1
    exact .inr ⟨s, rfl, Nat.le_trans hz (by decide), q _ F3 H3 ((s1.trans s2).trans s3) (.str _)⟩
end
end DW

namespace DW
open PySem PySem.Spec PyProof.Rows L2

/-! ### a list of ours changes -/
theorem Stp.mut {F H F' H' : Hp} {p : Addr} {o1 o2 : HO} (s : Stp F H F' H') (h0 : H p = none) (hF : F' p = none) (hH : H' p = some o1) (nt : ∀ ps, o1 ≠ .tbl ps) : Stp F H F' (upd H' p o2) := by
  refine ⟨s.f, ⟨fun a o q n => ?_, s.i.nt⟩, fun a o q n => ?_, fun a o q => ?_, fun P t => ?_, s.n⟩
  · rw [upd_ne (ne_of_none q hF)]; exact s.i.ex a o q n
  · rw [upd_ne (ne_of_none q h0)]; exact s.h a o q n
  · rw [upd_ne (ne_of_none q h0)]; exact s.s a o q
  · obtain ⟨ps, e, r⟩ := s.t P t
    refine ⟨ps, ?_, r⟩
    rw [upd_ne (fun z => by rw [z, hH] at e; cases e; exact nt ps rfl)]; exact e
theorem Holds.mut {g : Gd} {G : List Sl} {σ : L2.St} {F H : Hp} {p : Addr} {o1 o2 : HO} (h : Holds g G σ F H) (h0 : g.H0 p = none) (hF : F p = none) (hH : H p = some o1) (nt : ∀ ps, o1 ≠ .tbl ps) (new : ∀ (j : Nat) (t : Sl), G[j]? = some t → t.mine = true → σ[j]? ≠ some (some (V.ref p))) :
    Holds g G σ F (upd H p o2) := by
  refine ⟨h.len, h.st.mut h0 hF hH nt, fun j s o e1 e2 => ?_, h.apart, fun P hP => ?_, h.lo⟩
  · have q := h.sl j s o e1 e2
    cases s with
    | un => trivial
    | fz d => exact q
    | raw v => exact q
    | ow ds =>
      obtain ⟨r, vs, e, q0, qF, qH, qd⟩ := q
      subst e
      refine ⟨r, vs, rfl, q0, qF, ?_, qd⟩
      rw [upd_ne (fun z => new j _ e1 rfl (by rw [e2, z]))]; exact qH
    | od ds =>
      obtain ⟨r, vs, e, q0, qF, qH, qd⟩ := q
      subst e
      refine ⟨r, vs, rfl, q0, qF, ?_, qd⟩
      rw [upd_ne (fun z => new j _ e1 rfl (by rw [e2, z]))]; exact qH
    | fk ds => exact q
    | ob C =>
      obtain ⟨r, u, e, q0, qF, qH, qn, qC⟩ := q
      subst e
      refine ⟨r, u, rfl, q0, qF, ?_, qn, qC⟩
      rw [upd_ne (fun z => new j _ e1 rfl (by rw [e2, z]))]; exact qH
  · obtain ⟨ps, e, r⟩ := h.tab P hP
    refine ⟨ps, ?_, r⟩
    rw [upd_ne (fun z => by rw [z, hH] at e; cases e; exact nt ps rfl)]; exact e

/-! ### statements -/
def S (g : Gd) (t : TS) (D : Ends) (G : List Sl) : Prop := ∀ σ F H, Holds g G σ F H → t D σ H
def N (g : Gd) (nx : L2.St → Hp → Prop) (G : List Sl) : Prop := ∀ σ F H, Holds g G σ F H → nx σ H
def Rt (g : Gd) (rt : VK) (d : PyData) : Prop := ∀ v F H, Stp g.F0 g.H0 F H → Dp g.K F v d → rt v H
def RtL (g : Gd) (rt : VK) (ds : List PyData) : Prop := ∀ p vs F H, Stp g.F0 g.H0 F H → g.H0 p = none → F p = none → H p = some (.lst vs) → DpAll g.K F vs ds → rt (.ref p) H
/-- targets -/
def Tg (g : Gd) (tg : TG) (d : PyData) (G G' : List Sl) (ix : List Nat) : Prop := ∀ v σ F H, Holds g G σ F H → Dp g.K F v d → ∀ Q : L2.St → Hp → Prop, (∀ σ', Holds g G' σ' F H → (∀ vs : List Nat, (∀ j ∈ ix, j ∈ vs) → wipe σ' vs = wipe σ vs) → Q σ' H) → tg v σ H Q
def Tgs (g : Gd) (tg : TGs) (ds : List PyData) (G G' : List Sl) (ix : List Nat) : Prop := ∀ vs σ F H, Holds g G σ F H → DpAll g.K F vs ds → ∀ Q : L2.St → Hp → Prop, (∀ σ', Holds g G' σ' F H → (∀ vs : List Nat, (∀ j ∈ ix, j ∈ vs) → wipe σ' vs = wipe σ vs) → Q σ' H) → tg vs σ H Q
theorem wipe_set {σ : L2.St} {j : Nat} {v : Option V} : ∀ {vs : List Nat}, j ∈ vs → wipe (σ.set j v) vs = wipe σ vs
  | [], h => by cases h
  | w :: vs, h => by
    unfold wipe
    by_cases hj : j ∈ vs
    · rw [wipe_set hj]
    · have e : j = w := by
        rcases List.mem_cons.mp h with e | e
        · exact e
        · exact absurd e hj
      subst e
      have aux : ∀ (vs : List Nat), j ∉ vs → (wipe (σ.set j v) vs).set j none = (wipe σ vs).set j none := by
        intro vs
        induction vs with
        | nil => intro _; unfold wipe; rw [List.set_set]
        | cons w vs ih =>
          intro hn
          have h1 : j ≠ w := fun z => hn (by rw [z]; exact List.mem_cons_self)
          have h2 : j ∉ vs := fun z => hn (List.mem_cons_of_mem _ z)
          unfold wipe
          rw [List.set_comm _ _ (Ne.symm h1), ih h2, List.set_comm _ _ h1]
      exact aux vs hj
/-- forgetting, slot by slot -/
inductive Wk : List Sl → List Sl → Prop
  | nil : Wk [] []
  | keep {s s' : Sl} {G G' : List Sl} (e : s' = s) (h : Wk G G') : Wk (s :: G) (s' :: G')
  | drop {s : Sl} {G G' : List Sl} (h : Wk G G') : Wk (s :: G) (.un :: G')
theorem Wk.refl : ∀ (G : List Sl), Wk G G
  | [] => .nil
  | _ :: G => .keep rfl (Wk.refl G)
theorem Wk.len : ∀ {G G' : List Sl}, Wk G G' → G'.length = G.length
  | _, _, .nil => rfl
  | _, _, .keep _ h => by rw [List.length_cons, List.length_cons, Wk.len h]
  | _, _, .drop h => by rw [List.length_cons, List.length_cons, Wk.len h]
theorem Wk.ok : ∀ {G G' : List Sl}, Wk G G' → ∀ (j : Nat) (s : Sl), G'[j]? = some s → s = .un ∨ G[j]? = some s
  | _, _, .nil, _, _, e => by simp at e
  | _, _, .keep e _, 0, s, h => by simp at h; subst h; subst e; exact .inr rfl
  | _, _, .keep _ t, j + 1, s, h => by simpa using Wk.ok t j s (by simpa using h)
  | _, _, .drop _, 0, s, h => by simp at h; exact .inl h.symm
  | _, _, .drop t, j + 1, s, h => by simpa using Wk.ok t j s (by simpa using h)
theorem Holds.wk {g : Gd} {G G' : List Sl} {σ : L2.St} {F H : Hp} (h : Holds g G σ F H) (w : Wk G G') : Holds g G' σ F H := h.weak w.len w.ok

section
variable {g : Gd} {G G' G1 : List Sl} {te ta tb tc : TE} {tt : TT} {tu tw : TS} {d x y : PyData} {ds es : List PyData} {i j : Nat} {D : Ends} {tg : TG} {tgs : TGs} {ix ix' : List Nat}
theorem s_seq (h : S g tu { D with nx := tw D } G) : S g (tSeq tu tw) D G := h
theorem s_wk (w : Wk G G') (h : S g tu D G') : S g tu D G := fun σ F H hh => h σ F H (hh.wk w)
theorem n_wk {nx : L2.St → Hp → Prop} (w : Wk G G') (h : N g nx G') : N g nx G := fun σ F H hh => h σ F H (hh.wk w)
theorem n_seq (h : S g tu { D with nx := tw D } G) : N g (tSeq tu tw D) G := h
theorem n_s {t : TS} (h : S g t D G) : N g (t D) G := h
theorem s_next (h : N g D.nx G) : S g tNext D G := h
theorem s_brk (h : N g D.bk G) : S g tBreak D G := h
theorem s_cont (h : N g D.ct G) : S g tCont D G := h
theorem s_asg (h : E g te G d) (k : N g D.nx (G.set i (.fz d))) : S g (tAsg te (gName i)) D G := fun σ F H hh => h σ F H hh _ fun v F1 H1 s1 d1 => k _ F1 H1 ((hh.mono s1).setF d1)
theorem new_ok {σ : L2.St} {F H : Hp} (hh : Holds g G σ F H) {p : Addr} (h0 : H p = none) : ∀ (j : Nat), (∃ t, G[j]? = some t ∧ t.mine = true) → σ[j]? ≠ some (some (.ref p)) := fun j ht e => by
  obtain ⟨t, e1, m⟩ := ht
  have q := hh.sl j t _ e1 e
  cases t with
  | un => cases m
  | fz d => cases m
  | raw v => cases m
  | ow ds =>
    obtain ⟨r, vs, e2, _, _, qH, _⟩ := q
    cases e2
    rw [h0] at qH; cases qH
  | od ds =>
    obtain ⟨r, vs, e2, _, _, qH, _⟩ := q
    cases e2
    rw [h0] at qH; cases qH
  | fk ds => cases m
  | ob C =>
    obtain ⟨r, u, e2, _, _, qH, _⟩ := q
    cases e2
    rw [h0] at qH; cases qH
theorem s_asgL (h : EL g te G ds) (k : N g D.nx (G.set i (.ow ds))) : S g (tAsg te (gName i)) D G := fun σ F H hh => h σ F H hh _ fun p vs F1 H1 s1 h0 hF hH d1 =>
  k _ F1 H1 ((hh.mono s1).setO (old_free hh.st h0) hF hH d1 fun j _ ht => new_ok hh h0 j ht)
theorem s_asgT (h : E g te G d) (ht : Tg g tg d G G' ix) (k : N g D.nx G') : S g (tAsg te tg) D G := fun σ F H hh => h σ F H hh _ fun v F1 H1 s1 d1 => ht v σ F1 H1 (hh.mono s1) d1 _ fun σ' h' _ => k σ' F1 H1 h'
theorem g_name : Tg g (gName i) d G (G.set i (.fz d)) [i] := fun v σ F H hh hd Q q => q _ (hh.setF hd) fun vs hv => wipe_set (hv i List.mem_cons_self)
theorem gs_nil : Tgs g gNil [] G G [] := fun vs σ F H hh hd Q q => by cases hd; exact ⟨rfl, q σ hh fun _ _ => rfl⟩
theorem gs_cons {t : TG} {u : TGs} (h1 : Tg g t d G G1 ix) (h2 : Tgs g u ds G1 G' ix') : Tgs g (gCons t u) (d :: ds) G G' (ix ++ ix') := fun vs σ F H hh hd Q q => by
  cases hd with
  | cons a b =>
    exact ⟨_, _, rfl, h1 _ σ F H hh a _ fun σ1 hh1 w1 => h2 _ σ1 F H hh1 b _ fun σ2 hh2 w2 => q σ2 hh2 fun vs hv =>
      (w2 vs fun j hj => hv j (List.mem_append_right _ hj)).trans (w1 vs fun j hj => hv j (List.mem_append_left _ hj))⟩
theorem g_tup {n : Nat} (h : Tgs g tgs ds G G' ix) (hn : ds.length = n) : Tg g (gTup g.K n tgs) (.tuple ds) G G' ix := fun v σ F H hh hd Q q => by
  obtain ⟨a, vs, rfl, h1, h2⟩ := dp_tq hd
  exact ⟨a, vs, rfl, hh.st.i.ex.t h1, (dps_len h2).trans hn, h vs σ F H hh h2 Q q⟩
theorem s_ret (h : E g te G d) (k : Rt g D.rt d) : S g (tRet te) D G := fun σ F H hh => h σ F H hh _ fun v F1 H1 s1 d1 => k v F1 H1 (hh.st.trans s1) d1
theorem s_retL (h : EL g te G ds) (k : RtL g D.rt ds) : S g (tRet te) D G := fun σ F H hh => h σ F H hh _ fun p vs F1 H1 s1 h0 hF hH d1 => k p vs F1 H1 (hh.st.trans s1) (old_free hh.st h0) hF hH d1
theorem s_retO (h : G[i]? = some (.ow ds)) (k : RtL g D.rt ds) : S g (tRet (tVar i)) D G := fun σ F H hh => by
  obtain ⟨o, e, p, vs, ev, h0, hF, hH, hd⟩ := hh.at_ h
  subst ev
  exact ⟨.ref p, e, k p vs F H hh.st h0 hF hH hd⟩
theorem RtL.of (h : Rt g D.rt (.list ds)) : RtL g D.rt ds := fun p vs F H s h0 hF hH hd => by
  have e : Ex F (upd F p (.lst vs)) := fun a u q _ => by rw [upd_ne (ne_of_none q hF)]; exact q
  refine h (.ref p) (upd F p (.lst vs)) H ⟨s.f.trans e, ⟨fun a u q n => ?_, fun a ps q => ?_⟩, s.h, s.s, s.t, fun a u q n => ?_⟩ (.lst (.inl (.inl upd_same)) (e.dps ds vs hd))
  · by_cases ha : a = p
    · subst ha; rw [upd_same] at q; cases q; exact hH
    · rw [upd_ne ha] at q; exact s.i.ex a u q n
  · by_cases ha : a = p
    · subst ha; rw [upd_same] at q; cases q
    · rw [upd_ne ha] at q; exact s.i.nt a ps q
  · rw [upd_ne (ne_of_none q h0)]; exact s.n a u q n
theorem s_if {b : Bool} (h : T g tt G b) (h1 : b = true → S g tu D G) (h2 : b = false → S g tw D G) : S g (tIfS tt tu tw) D G := fun σ F H hh => h σ F H hh _ fun F1 H1 s1 => by
  cases b with
  | true => exact h1 rfl σ F1 H1 (hh.mono s1)
  | false => exact h2 rfl σ F1 H1 (hh.mono s1)
theorem s_drop (h : E g te G d) (k : N g D.nx G) : S g (tDrop te) D G := fun σ F H hh => h σ F H hh _ fun v F1 H1 s1 _ => k σ F1 H1 (hh.mono s1)
theorem s_aug {f : Int → Int → Int} {a b : Int} (hx : G[i]? = some (.fz (.int a))) (h : E g te G (.int b)) (k : N g D.nx (G.set i (.fz (.int (f a b))))) : S g (tAug i te (ipI f)) D G := fun σ F H hh => by
  obtain ⟨o, e, v, ev, hd⟩ := hh.at_ hx
  subst ev
  cases hd
  refine ⟨.int a, e, h σ F H hh _ fun w F1 H1 s1 d1 => ?_⟩
  cases d1
  exact ⟨a, b, rfl, rfl, k _ F1 H1 ((hh.mono s1).setF (.int _))⟩
/-- xs.append(e) -/
theorem s_app (h : G[i]? = some (.ow ds)) (he : E g te G d) (hz : ds.length < 100000) (k : N g D.nx (G.set i (.ow (ds ++ [d])))) : S g (tDrop (tBM g.K "list" rAppend (tVar i) (tCons te tNil))) D G := fun σ F H hh => by
  obtain ⟨o, e, p, vs, ev, h0, hF, hH, hd⟩ := hh.at_ h
  subst ev
  refine ⟨.ref p, e, .inl ⟨rfl, vs, .inl (.inl hH)⟩, he σ F H hh _ fun v F1 H1 s1 d1 => ?_⟩
  have hH1 := s1.h.lst hH
  have hF1 := s1.n p _ hH hF
  refine ⟨p, vs, v, rfl, rfl, hH1, Nat.lt_of_lt_of_le (by rw [dps_len hd]; exact hz) (by decide), ?_⟩
  have hi : i < σ.length := (List.getElem?_eq_some_iff.mp e).1
  have hs : σ.set i (some (.ref p)) = σ := by
    apply List.ext_getElem?
    intro j
    by_cases hj : i = j
    · subst hj; rw [List.getElem?_set_self hi, e]
    · rw [List.getElem?_set_ne hj]
  have base := hh.mono s1
  -- forget the slot, change, set it again
  have h1 : Holds g (G.set i .un) σ F1 H1 := base.weak (by rw [List.length_set]) fun j s ej => by
    by_cases hj : i = j
    · subst hj; rw [List.getElem?_set_self (by rw [← hh.len]; exact hi)] at ej; cases ej; exact .inl rfl
    · rw [List.getElem?_set_ne hj] at ej; exact .inr ej
  have other : ∀ (j : Nat) (t : Sl), j ≠ i → G[j]? = some t → t.mine = true → σ[j]? ≠ some (some (.ref p)) := fun j t hj ej m z => hj (hh.apart j i t (.ow ds) p ej h m rfl z e)
  have h2 : Holds g (G.set i .un) σ F1 (upd H1 p (.lst (vs ++ [v]))) := h1.mut h0 hF1 hH1 (fun _ z => by cases z) fun j t ej m => by
    by_cases hj : i = j
    · subst hj; rw [List.getElem?_set_self (by rw [← hh.len]; exact hi)] at ej; cases ej; cases m
    · rw [List.getElem?_set_ne hj] at ej; exact other j t (Ne.symm hj) ej m
  have h3 := h2.setO (i := i) (ds := ds ++ [d]) h0 hF1 upd_same (dps_app (s1.f.dps ds vs hd) (.cons d1 .nil)) fun j hj ⟨t, ej, m⟩ => by
    rw [List.getElem?_set_ne (Ne.symm hj)] at ej; exact other j t hj ej m
  rw [List.set_set, hs] at h3
  exact k σ F1 _ h3
/-- a list of ours stays for good -/
theorem s_frz (h : G[i]? = some (.ow ds)) (k : S g tu D (G.set i (.fz (.list ds)))) : S g tu D G := fun σ F H hh => by
  obtain ⟨o, e, p, vs, ev, h0, hF, hH, hd⟩ := hh.at_ h
  subst ev
  have hi : i < σ.length := (List.getElem?_eq_some_iff.mp e).1
  have ex : Ex F (upd F p (.lst vs)) := fun a u q _ => by rw [upd_ne (ne_of_none q hF)]; exact q
  refine k σ (upd F p (.lst vs)) H ⟨by rw [List.length_set]; exact hh.len, ⟨hh.st.f.trans ex, ⟨fun a u q n => ?_, fun a ps q => ?_⟩, hh.st.h, hh.st.s, hh.st.t, fun a u q n => ?_⟩, fun j s o e1 e2 => ?_, fun j k s t q e1 e2 m1 m2 e3 e4 => ?_, hh.tab, hh.lo.trans ex⟩
  · by_cases ha : a = p
    · subst ha; rw [upd_same] at q; cases q; exact hH
    · rw [upd_ne ha] at q; exact hh.st.i.ex a u q n
  · by_cases ha : a = p
    · subst ha; rw [upd_same] at q; cases q
    · rw [upd_ne ha] at q; exact hh.st.i.nt a ps q
  · rw [upd_ne (ne_of_none q h0)]; exact hh.st.n a u q n
  · by_cases hj : i = j
    · subst hj
      rw [List.getElem?_set_self (by rw [← hh.len]; exact hi)] at e1
      cases e1
      rw [e] at e2; cases e2
      exact ⟨_, rfl, .lst (.inl (.inl upd_same)) (ex.dps ds vs hd)⟩
    · rw [List.getElem?_set_ne hj] at e1
      have q := hh.sl j s o e1 e2
      cases s with
      | un => trivial
      | fz d => obtain ⟨v, ev, hv⟩ := q; exact ⟨v, ev, ex.dp d v hv⟩
      | raw v => exact q
      | ow es =>
        obtain ⟨r, ws, er, q0, qF, qH, qd⟩ := q
        subst er
        refine ⟨r, ws, rfl, q0, ?_, qH, ex.dps es ws qd⟩
        rw [upd_ne (fun z => hj (hh.apart i j (.ow ds) (.ow es) p h e1 rfl rfl e (by rw [e2, z])))]; exact qF
      | od es =>
        obtain ⟨r, ws, er, q0, qF, qH, qd⟩ := q
        subst er
        refine ⟨r, ws, rfl, q0, ?_, qH, qd.mono ex⟩
        rw [upd_ne (fun z => hj (hh.apart i j (.ow ds) (.od es) p h e1 rfl rfl e (by rw [e2, z])))]; exact qF
      | fk es =>
        obtain ⟨r, ws, er, hr, qd⟩ := q
        exact ⟨r, ws, er, ex.rd hr (fun _ z => by cases z), qd.mono ex⟩
      | ob C =>
        obtain ⟨r, u, er, q0, qF, qH, qn, qC⟩ := q
        subst er
        refine ⟨r, u, rfl, q0, ?_, qH, qn, fun F2 e2 => qC F2 (ex.trans e2)⟩
        rw [upd_ne (fun z => hj (hh.apart i j (.ow ds) (.ob C) p h e1 rfl rfl e (by rw [e2, z])))]; exact qF
  · have a1 : i ≠ j := fun z => by subst z; rw [List.getElem?_set_self (by rw [← hh.len]; exact hi)] at e1; cases e1; cases m1
    have a2 : i ≠ k := fun z => by subst z; rw [List.getElem?_set_self (by rw [← hh.len]; exact hi)] at e2; cases e2; cases m2
    rw [List.getElem?_set_ne a1] at e1
    rw [List.getElem?_set_ne a2] at e2
    exact hh.apart j k s t q e1 e2 m1 m2 e3 e4

/-! ### what is walked -/
/-- at any later time the iterator goes through ds -/
structure Wd (K : PySem.W.Frag) (J : It) (ds : List PyData) (F1 : Hp) : Prop where
  go : ∀ i F H, Ex F1 F → Sub F H → i < ds.length → J.go i H
  stop : ∀ F H, Ex F1 F → Sub F H → J.stop ds.length H
  yld : ∀ i F H x H' d, Ex F1 F → Sub F H → ds[i]? = some d → J.yld i H x H' → ∃ F', Stp F H F' H' ∧ Dp K F' x d
def IT (g : Gd) (wi : TI) (G : List Sl) (ds : List PyData) : Prop := ∀ σ F H, Holds g G σ F H → ∀ R : It → Hp → Prop, (∀ J F1 H1, Stp F H F1 H1 → Wd g.K J ds F1 → R J H1) → wi σ H R
theorem it_list (h : E g te G (.list ds)) : IT g (iList g.K te) G ds := fun σ F H hh R r => h σ F H hh _ fun v F1 H1 s1 d1 => by
  obtain ⟨a, vs, rfl, h1, h2⟩ := dp_sq d1
  refine ⟨a, rfl, ⟨vs, s1.i.ex.l h1⟩, r _ F1 H1 s1 ⟨fun i F2 H2 e sb hi => ?_, fun F2 H2 e sb => ?_, fun i F2 H2 x H' d e sb hd hy => ?_⟩⟩
  · have hi' : i < vs.length := by rw [dps_len h2]; exact hi
    exact ⟨vs, vs[i], sb.ex.l (e.l h1), List.getElem?_eq_getElem hi'⟩
  · exact ⟨vs, sb.ex.l (e.l h1), by rw [dps_len h2]; exact Nat.le_refl _⟩
  · obtain ⟨rfl, q⟩ := hy
    obtain ⟨w, e1, e2⟩ := dps_get h2 hd
    have e3 := q vs (sb.ex.l (e.l h1))
    rw [e1] at e3; cases e3
    exact ⟨F2, Stp.refl sb, e.dp d _ e2⟩
theorem it_tup (h : E g te G (.tuple ds)) : IT g (iTup g.K te) G ds := fun σ F H hh R r => h σ F H hh _ fun v F1 H1 s1 d1 => by
  obtain ⟨a, vs, rfl, h1, h2⟩ := dp_tq d1
  refine ⟨a, rfl, ⟨vs, s1.i.ex.t h1⟩, r _ F1 H1 s1 ⟨fun i F2 H2 e sb hi => ?_, fun F2 H2 e sb => ?_, fun i F2 H2 x H' d e sb hd hy => ?_⟩⟩
  · have hi' : i < vs.length := by rw [dps_len h2]; exact hi
    exact ⟨vs, vs[i], sb.ex.t (e.t h1), List.getElem?_eq_getElem hi'⟩
  · exact ⟨vs, sb.ex.t (e.t h1), by rw [dps_len h2]; exact Nat.le_refl _⟩
  · obtain ⟨rfl, q⟩ := hy
    obtain ⟨w, e1, e2⟩ := dps_get h2 hd
    have e3 := q vs (sb.ex.t (e.t h1))
    rw [e1] at e3; cases e3
    exact ⟨F2, Stp.refl sb, e.dp d _ e2⟩
/-- a list or a tuple -/
def iSeq (K : PySem.W.Frag) (te : TE) : TI := fun σ H R => iList K te σ H R ∨ iTup K te σ H R
theorem it_sl (h : E g te G (.list ds)) : IT g (iSeq g.K te) G ds := fun σ F H hh R r => .inl (it_list h σ F H hh R r)
theorem it_st (h : E g te G (.tuple ds)) : IT g (iSeq g.K te) G ds := fun σ F H hh R r => .inr (it_tup h σ F H hh R r)
theorem pi_seq {X : Cx} {tg l : Expr} {tl : TE} (hl : PE X l tl) : PI X tg l (iSeq X.K tl) := ⟨fun pins s σ H R I h => by
  rcases h with h | h
  · exact (pi_list hl).run pins s σ H R I h
  · exact (pi_tup hl).run pins s σ H R I h⟩
/-- the ints from lo on -/
def rngD (lo : Int) (n : Nat) : List PyData := (List.range n).map fun i => .int (lo + (i : Nat))
theorem rngD_len (lo : Int) (n : Nat) : (rngD lo n).length = n := by unfold rngD; rw [List.length_map, List.length_range]
theorem rngD_get {lo : Int} {n i : Nat} {d : PyData} (h : (rngD lo n)[i]? = some d) : i < n ∧ d = .int (lo + (i : Nat)) := by
  unfold rngD at h
  rw [List.getElem?_map] at h
  by_cases hi : i < n
  · rw [List.getElem?_range hi] at h; exact ⟨hi, (Option.some.inj h).symm⟩
  · rw [List.getElem?_eq_none (by rw [List.length_range]; omega)] at h; cases h
theorem wd_rng {K : PySem.W.Frag} {lo : Int} {n : Nat} {F1 : Hp} : Wd K (Itr lo n) (rngD lo n) F1 :=
  ⟨fun i F H _ _ hi => by rw [rngD_len] at hi; exact hi, fun F H _ _ => by rw [rngD_len]; exact Nat.le_refl _, fun i F H x H' d _ sb hd hy => by
    obtain ⟨rfl, rfl⟩ := hy
    obtain ⟨_, rfl⟩ := rngD_get hd
    exact ⟨F, Stp.refl sb, .int _⟩⟩
theorem it_rng1 {ta : TA} {n : Int} (h : A g ta G [.int n]) (h1 : -100000000 ≤ n) (h2 : n ≤ 100000000) : IT g (iRng1 ta) G (rngD 0 n.toNat) := fun σ F H hh R r => h σ F H hh _ fun vs F1 H1 s1 d1 => by
  cases d1 with
  | cons a t => cases t; cases a; exact ⟨n, rfl, by omega, by omega, r _ F1 H1 s1 wd_rng⟩
theorem it_rng2 {ta : TA} {lo hi : Int} (h : A g ta G [.int lo, .int hi]) (h1 : -100000000 ≤ lo) (h2 : lo ≤ 100000000) (h3 : -100000000 ≤ hi) (h4 : hi ≤ 100000000) : IT g (iRng2 ta) G (rngD lo (hi - lo).toNat) := fun σ F H hh R r => h σ F H hh _ fun vs F1 H1 s1 d1 => by
  cases d1 with
  | cons a t =>
    cases t with
    | cons b t => cases t; cases a; cases b; exact ⟨lo, hi, rfl, ⟨by omega, by omega, by omega, by omega⟩, r _ F1 H1 s1 wd_rng⟩

/-! ### for, while -/
/-- some state of the turn holds -/
def nxI (g : Gd) {α : Type} (Iv : α → List Sl) (P : α → Prop) : L2.St → Hp → Prop := fun σ H => ∃ a, P a ∧ ∃ F, Holds g (Iv a) σ F H
theorem n_end {α : Type} {Iv : α → List Sl} {P : α → Prop} (a : α) (p : P a) (w : Wk G (Iv a)) : N g (nxI g Iv P) G := fun σ F H hh => ⟨a, p, F, hh.wk w⟩
theorem s_for {α : Type} {wi : TI} (Iv : Nat → α → List Sl) (P : Nat → α → Prop) (it : IT g wi G ds) (a0 : α) (p0 : P 0 a0) (w0 : Wk G (Iv 0 a0))
    (turn : ∀ F1 (i : Nat) (a : α) (d : PyData), ds[i]? = some d → P i a → ∃ G1 ix, Tg { g with Fl := F1 } tg d (Iv i a) G1 ix ∧
      S { g with Fl := F1 } tu { D with nx := nxI { g with Fl := F1 } (Iv (i + 1)) (P (i + 1)), ct := nxI { g with Fl := F1 } (Iv (i + 1)) (P (i + 1)), bk := D.nx } G1)
    (done : ∀ a, P ds.length a → N g D.nx (Iv ds.length a)) : S g (tFor wi tg tu) D G := fun σ F H hh => it σ F H hh _ fun J F1 H1 s1 W => by
  have up : ∀ {G : List Sl} {σ : L2.St} {F H : Hp}, Ex g.Fl F1 → Holds { g with Fl := F1 } G σ F H → Holds g G σ F H := fun e h => ⟨h.len, h.st, h.sl, h.apart, h.tab, e.trans h.lo⟩
  have el : Ex g.Fl F1 := hh.lo.trans s1.f
  refine ⟨fun i m σ H => m = ds.length - i ∧ i ≤ ds.length ∧ nxI { g with Fl := F1 } (Iv i) (P i) σ H, ⟨ds.length, by simp, Nat.zero_le _, a0, p0, F1, ?_⟩, ?_⟩
  · have h1 := (hh.mono s1).wk w0
    exact ⟨h1.len, h1.st, h1.sl, h1.apart, h1.tab, Ex.refl F1⟩
  · rintro i m σ2 H2 ⟨rfl, hi, a, p, F2, hh2⟩
    by_cases hlt : i < ds.length
    · refine .inr ⟨W.go i F2 H2 hh2.lo hh2.st.i hlt, nxI { g with Fl := F1 } (Iv (i + 1)) (P (i + 1)), fun σ' H' q => ⟨ds.length - (i + 1), by omega, rfl, hlt, q⟩, fun x H' y => ?_⟩
      obtain ⟨F3, s3, d3⟩ := W.yld i F2 H2 x H' ds[i] hh2.lo hh2.st.i (List.getElem?_eq_getElem hlt) y
      obtain ⟨G1, ix, ht, hs⟩ := turn F1 i a ds[i] (List.getElem?_eq_getElem hlt) p
      exact ht x σ2 F3 H' (hh2.mono s3) d3 _ fun σ' h' _ => hs σ' F3 H' h'
    · have e : i = ds.length := by omega
      subst e
      exact .inl ⟨W.stop F2 H2 hh2.lo hh2.st.i, done a p σ2 F2 H2 (up el hh2)⟩
theorem s_while {α : Type} (Iv : α → List Sl) (P : α → Prop) (m : α → Nat) (a0 : α) (p0 : P a0) (w0 : Wk G (Iv a0))
    (turn : ∀ a, P a → ∃ b, T g tt (Iv a) b ∧ (b = true → S g tu { D with nx := nxI g Iv (fun a' => P a' ∧ m a' < m a), ct := nxI g Iv (fun a' => P a' ∧ m a' < m a), bk := D.nx } (Iv a)) ∧ (b = false → N g D.nx (Iv a))) : S g (tWhile tt tu) D G := fun σ F H hh => by
  refine ⟨fun n σ H => ∃ a, n = m a ∧ P a ∧ ∃ F, Holds g (Iv a) σ F H, ⟨_, a0, rfl, p0, F, hh.wk w0⟩, ?_⟩
  rintro n σ2 H2 ⟨a, rfl, p, F2, hh2⟩
  obtain ⟨b, ht, h1, h2⟩ := turn a p
  refine ht σ2 F2 H2 hh2 _ fun F3 H3 s3 => ?_
  cases b with
  | true => exact ⟨_, fun σ' H' ⟨a', ⟨p', l⟩, F', h'⟩ => ⟨m a', l, a', rfl, p', F', h'⟩, h1 rfl σ2 F3 H3 (hh2.mono s3)⟩
  | false => exact h2 rfl σ2 F3 H3 (hh2.mono s3)

/-! ### comprehensions -/
def wipeG (G : List Sl) : List Nat → List Sl
  | [] => G
  | v :: vs => (wipeG G vs).set v .un
theorem wipeG_len (G : List Sl) : ∀ vs, (wipeG G vs).length = G.length
  | [] => rfl
  | v :: vs => by unfold wipeG; rw [List.length_set, wipeG_len G vs]
theorem Holds.wipe {σ : L2.St} {F H : Hp} (h : Holds g G σ F H) : ∀ vs, Holds g (wipeG G vs) (wipe σ vs) F H
  | [] => h
  | v :: vs => by
    have ih := Holds.wipe h vs
    unfold wipeG L2.wipe
    refine ⟨by rw [List.length_set, List.length_set]; exact ih.len, ih.st, fun j s o e1 e2 => ?_, fun j k s t p e1 e2 m1 m2 e3 e4 => ?_, ih.tab, ih.lo⟩
    · by_cases hj : v = j
      · subst hj
        have hi : v < (wipeG G vs).length := by have := (List.getElem?_eq_some_iff.mp e1).1; rwa [List.length_set] at this
        rw [List.getElem?_set_self hi] at e1; cases e1; trivial
      · rw [List.getElem?_set_ne hj] at e1 e2; exact ih.sl j s o e1 e2
    · by_cases hj : v = j
      · subst hj
        have hi : v < (wipeG G vs).length := by have := (List.getElem?_eq_some_iff.mp e1).1; rwa [List.length_set] at this
        rw [List.getElem?_set_self hi] at e1; cases e1; cases m1
      · by_cases hk : v = k
        · subst hk
          have hi : v < (wipeG G vs).length := by have := (List.getElem?_eq_some_iff.mp e2).1; rwa [List.length_set] at this
          rw [List.getElem?_set_self hi] at e2; cases e2; cases m2
        · rw [List.getElem?_set_ne hj] at e1 e3
          rw [List.getElem?_set_ne hk] at e2 e4
          exact ih.apart j k s t p e1 e2 m1 m2 e3 e4
theorem t_yes : T g tYes G true := fun σ F H hh Q q => q F H (Stp.refl hh.st.i)
theorem filt_take {f : PyData → Option PyData} {l : List PyData} {i : Nat} {d : PyData} (h : l[i]? = some d) : (l.take (i + 1)).filterMap f = (l.take i).filterMap f ++ (match f d with | some y => [y] | none => []) := by
  rw [List.take_add_one, h, List.filterMap_append]
  cases e : f d with
  | none => simp [e]
  | some y => simp [e]
theorem el_lc {wi : TI} {vs : List Nat} (f : PyData → Option PyData) (G1 : PyData → List Sl) (it : IT g wi G ds) (hz : ds.length ≤ 40000)
    (tgt : ∀ F1, ∀ d ∈ ds, Tg { g with Fl := F1 } tg d (wipeG G vs) (G1 d) ix) (hix : ∀ j ∈ ix, j ∈ vs)
    (ht : ∀ F1, ∀ d ∈ ds, T { g with Fl := F1 } tt (G1 d) (f d).isSome) (he : ∀ F1, ∀ d ∈ ds, ∀ y, f d = some y → E { g with Fl := F1 } te (G1 d) y) : EL g (tLc wi tg tt te vs) G (ds.filterMap f) := fun σ F H hh Q q => it σ F H hh _ fun J F1 H1 s1 W Dl hD => by
  have hh1 := hh.mono s1
  have hw := Holds.wipe hh1 vs
  have hwl : Holds { g with Fl := F1 } (wipeG G vs) (wipe σ vs) F1 H1 := ⟨hw.len, hw.st, hw.sl, hw.apart, hw.tab, Ex.refl F1⟩
  have hD0 : g.H0 Dl = none := old_free hh1.st hD
  have nw := new_ok hwl hD
  let Pv : Nat → Hp → Prop := fun i H' => ∃ F' ws, Stp F1 H1 F' H' ∧ Holds { g with Fl := F1 } (wipeG G vs) (wipe σ vs) F' H' ∧ F' Dl = none ∧ H' Dl = some (.lst ws) ∧ DpAll g.K F' ws ((ds.take i).filterMap f)
  have flen : ∀ i, ((ds.take i).filterMap f).length ≤ 40000 := fun i => Nat.le_trans (List.length_filterMap_le _ _) (by rw [List.length_take]; omega)
  refine ⟨fun i m H' => m = ds.length - i ∧ i ≤ ds.length ∧ Pv i H', ⟨ds.length, by simp, Nat.zero_le _, F1, [], Stp.mine s1.i hD, hwl.mono (Stp.mine s1.i hD), s1.i.free hD, upd_same, .nil⟩, ?_⟩
  rintro i m H2 ⟨rfl, hi, F2, ws, s2, hh2, hF2, hH2, hd2⟩
  by_cases hlt : i < ds.length
  · have hget := List.getElem?_eq_getElem hlt
    have hmem : ds[i] ∈ ds := List.getElem_mem hlt
    refine .inr ⟨W.go i F2 H2 hh2.lo hh2.st.i hlt, Pv (i + 1), fun H' p' => ⟨ds.length - (i + 1), by omega, rfl, hlt, p'⟩, fun x H3 y => ?_⟩
    obtain ⟨F3, s3, d3⟩ := W.yld i F2 H2 x H3 ds[i] hh2.lo hh2.st.i hget y
    refine tgt F1 ds[i] hmem x (wipe σ vs) F3 H3 (hh2.mono s3) d3 _ fun σ3 hh3 w3 => ⟨?_, ?_⟩
    · rw [w3 vs hix]
      have ww : ∀ (l : List Nat), (∀ j ∈ l, j ∈ vs) → wipe (wipe σ l) vs = wipe σ vs := by
        intro l
        induction l with
        | nil => intro _; rfl
        | cons v l ih => intro hl; show wipe ((wipe σ l).set v none) vs = _; rw [wipe_set (hl v List.mem_cons_self)]; exact ih fun j hj => hl j (List.mem_cons_of_mem _ hj)
      exact ww vs fun _ h => h
    · refine ht F1 ds[i] hmem σ3 F3 H3 hh3 _ fun F4 H4 s4 => ?_
      have e : (ds.take (i + 1)).filterMap f = _ := filt_take (f := f) hget
      cases hf : f ds[i] with
      | none =>
        show Pv (i + 1) H4
        rw [hf] at e
        have ss := s3.trans s4
        exact ⟨F4, ws, s2.trans ss, hh2.mono ss, ss.n Dl _ hH2 hF2, ss.h.lst hH2, by rw [e, List.append_nil]; exact ss.f.dps _ ws hd2⟩
      | some yv =>
        show te σ3 H4 _
        rw [hf] at e
        refine he F1 ds[i] hmem yv hf σ3 F4 H4 (hh3.mono s4) _ fun w F5 H5 s5 d5 => ?_
        have ss := (s3.trans s4).trans s5
        have hF5 := ss.n Dl _ hH2 hF2
        have hH5 := ss.h.lst hH2
        refine ⟨ws, hH5, Nat.lt_of_le_of_lt (by rw [dps_len hd2]; exact flen i) (by decide), F5, ws ++ [w], (s2.trans ss).mut hD hF5 hH5 (fun _ z => by cases z), (hh2.mono ss).mut hD0 hF5 hH5 (fun _ z => by cases z) (fun j t e1 m e2 => nw j ⟨t, e1, m⟩ e2), hF5, upd_same, ?_⟩
        rw [e]
        exact dps_app (ss.f.dps _ ws hd2) (.cons d5 .nil)
  · have e : i = ds.length := by omega
    subst e
    rw [List.take_length] at hd2
    exact .inl ⟨W.stop F2 H2 hh2.lo hh2.st.i, q Dl ws F2 H2 (s1.trans s2) (old_free s1 hD) hF2 hH2 hd2⟩
end

/-! ### defs -/
/-- the promise by data: R tells the answer -/
def spD (K : PySem.W.Frag) (Tb : List Addr) (R : List PyData → PyData → Prop) : Sp := fun vs H Q _ => ∃ F ds d, Sub F H ∧ (∀ P ∈ Tb, GxR.TabG H P) ∧ DpAll K F vs ds ∧ R ds d ∧ ∀ v F' H', Stp F H F' H' → Dp K F' v d → Q v H'
/-- .. a new list, the caller's alone -/
def spL (K : PySem.W.Frag) (Tb : List Addr) (R : List PyData → List PyData → Prop) : Sp := fun vs H Q _ => ∃ F ds es, Sub F H ∧ (∀ P ∈ Tb, GxR.TabG H P) ∧ DpAll K F vs ds ∧ R ds es ∧ ∀ p ws F' H', Stp F H F' H' → H p = none → F' p = none → H' p = some (.lst ws) → DpAll K F' ws es → Q (.ref p) H'
def startG (n : Nat) (ds : List PyData) : List Sl := ds.map .fz ++ List.replicate (n - ds.length) .un
theorem holds_start {K : PySem.W.Frag} {Tb : List Addr} {F H : Hp} {vs : List V} {ds : List PyData} {Nn : List Str} (sb : Sub F H) (ht : ∀ P ∈ Tb, GxR.TabG H P) (hd : DpAll K F vs ds) : Holds ⟨K, Tb, F, H, F⟩ (startG Nn.length ds) (L2.start Nn vs) F H := by
  have hl := dps_len hd
  refine ⟨by unfold L2.start startG; rw [List.length_append, List.length_append, List.length_map, List.length_map, List.length_replicate, List.length_replicate, hl], Stp.refl sb, fun j s o e1 e2 => ?_, fun j k s t p e1 _ m1 _ _ _ => ?_, ht, Ex.refl F⟩
  · unfold startG at e1
    unfold L2.start at e2
    by_cases hj : j < ds.length
    · rw [List.getElem?_append_left (by rw [List.length_map]; exact hj), List.getElem?_map] at e1
      rw [List.getElem?_append_left (by rw [List.length_map, hl]; exact hj), List.getElem?_map] at e2
      cases h1 : ds[j]? with
      | none => rw [h1] at e1; cases e1
      | some d =>
        rw [h1] at e1; cases e1
        obtain ⟨v, h2, h3⟩ := dps_get hd h1
        rw [h2] at e2; cases e2
        exact ⟨v, rfl, h3⟩
    · rw [List.getElem?_append_right (by rw [List.length_map]; omega), List.getElem?_replicate] at e1
      split at e1
      · cases e1; trivial
      · cases e1
  · have no : ∀ (s : Sl), (startG Nn.length ds)[j]? = some s → s.mine = false := fun s e => by
      unfold startG at e
      rcases List.mem_append.mp (List.mem_of_getElem? e) with h | h
      · obtain ⟨d, _, rfl⟩ := List.mem_map.mp h; rfl
      · rw [(List.mem_replicate.mp h).2]; rfl
    rw [no s e1] at m1; cases m1
section
variable {g : Gd} {G : List Sl} {te : TE} {ta : TA} {d : PyData} {ds es : List PyData}
theorem Stp.back {F F1 H F' H' : Hp} (sb : Sub F H) (s : Stp F1 H F' H') : Stp F H F H' := ⟨Ex.refl F, ⟨sb.ex.trans s.h, sb.nt⟩, s.h, s.s, s.t, fun _ _ _ n => n⟩
theorem e_call {R : List PyData → PyData → Prop} {Ek : XK} (h : A g ta G ds) (r : R ds d) : E g (tCall (spD g.K g.T R) [] Ek ta) G d := fun σ F H hh Q q => h σ F H hh _ fun vs F1 H1 s1 d1 => by
  rw [List.append_nil]
  exact ⟨F1, ds, d, s1.i, (hh.mono s1).tab, d1, r, fun v F2 H2 s2 d2 => q v F2 H2 (s1.trans s2) d2⟩
theorem b_call {R : List PyData → PyData → Prop} {Ek : XK} (h : AB g ta G ds) (r : R ds d) (hs : scalD d = true) : E g (tCall (spD g.K g.T R) [] Ek ta) G d := fun σ F H hh Q q => h σ F H hh _ fun vs F1 H1 s1 d1 => by
  rw [List.append_nil]
  exact ⟨cut H1, ds, d, sub_cut H1, (hh.mono s1).tab, (ex_cut H1).dps ds vs d1, r, fun v F2 H2 s2 d2 => q v F1 H2 (s1.trans (Stp.back s1.i s2)) (dp_scal hs d2)⟩
theorem el_call {R : List PyData → List PyData → Prop} {Ek : XK} (h : A g ta G ds) (r : R ds es) : EL g (tCall (spL g.K g.T R) [] Ek ta) G es := fun σ F H hh Q q => h σ F H hh _ fun vs F1 H1 s1 d1 => by
  rw [List.append_nil]
  exact ⟨F1, ds, es, s1.i, (hh.mono s1).tab, d1, r, fun p ws F2 H2 s2 h0 hF hH d2 => q p ws F2 H2 (s1.trans s2) (old_free s1 h0) hF hH d2⟩
end
/-- a def at hand: where it stands and what it promises -/
structure Df (P : Program) (w : World) (K : PySem.W.Frag) (mg : Str → Option Value) (base : Heap) (k : Nat) (x : Str) (ps : List Str) (sp : Sp) : Prop where
  ex : ∃ f fd, FnOk P w K mg base CX0 k f fd ps sp ∧ mg x = some (.ref f) ∧ PySem.W.keepIn K (.ref f) = true ∧ Binds K fd ps []
theorem pe_df {X : Cx} {k j : Nat} {x : Str} {ps : List Str} {sp : Sp} {e : Expr} {es : List Expr} {t : TA} {p pos : Pos} (D : Df X.prog X.w X.K X.mg X.base j x ps sp) (hr : Room k X.A) (hj : j ≤ k) (hg : Gl X x) (ha : PA X (e :: es) t) (hdb : (x == ("__debug__" : Str)) = false := by decide)
    (he : starEach (e :: es) X.env = (false, eval e X.env) :: starEach es X.env := by rfl) (hpl : (backTo pos (starEach es X.env)).any (·.1) = false := by rfl) : PE X (.Call (.Name x p) (e :: es) [] pos) (tCall sp [] E0 t) := by
  obtain ⟨f, fd, F, hm, hk, hb⟩ := D.ex
  exact pe_call F (hr.mono hj) hg hm hk hb .nil pass0 ha hdb he hpl
section
variable {P : Program} {w : World} {K : PySem.W.Frag} {mg : Str → Option Value} {base : Heap} {x qual : Str} {st : Stmt} {f : Addr} {fd : FuncData} {Nn ps : List Str} {k : Nat} {Tb : List Addr}
/-- a def that gives data -/
theorem df_D (F : Fun K x qual st f fd) (Sc : FnScope Nn ps (defScope st)) (hm : mg x = some (.ref f)) (hb : Binds K fd ps []) {R : List PyData → PyData → Prop} (hlen : ∀ ds d, R ds d → ds.length = ps.length)
    (body : ∀ (cdv : Value) (A : Around) (outer : List Env) (s : Shared) (H : Hp) (E : XK), Room k (A.deeper (envOfC qual (defScope st) s.heap.objs.size f cdv)) →
      ∃ t, PSs (cxOf CX0 P w K mg base Nn qual (defScope st) f cdv A outer s H E).nox (defBody st) t ∧ ∀ (ds : List PyData) (d : PyData) (F0 H0 : Hp) (Q : VK), R ds d → Rt ⟨K, Tb, F0, H0, F0⟩ Q d → S ⟨K, Tb, F0, H0, F0⟩ t { nx := fun _ H' => Q .non H', rt := Q } (startG Nn.length ds)) :
    Df P w K mg base (k + 1) x ps (spD K Tb R) := by
  refine ⟨f, fd, F.ok Sc (fun vs H Q E h => ?_) (fun cdv A outer s H vs Q E hr h => ?_), hm, F.kp, hb⟩
  · obtain ⟨F, ds, d, _, _, hd, r, _⟩ := h
    exact (dps_len hd).trans (hlen ds d r)
  · obtain ⟨F1, ds, d, sb, ht, hd, r, q⟩ := h
    obtain ⟨t, h1, h2⟩ := body cdv A outer s H E hr
    exact ⟨t, h1, h2 ds d F1 H Q r q _ F1 H (holds_start sb ht hd)⟩
theorem df_L (F : Fun K x qual st f fd) (Sc : FnScope Nn ps (defScope st)) (hm : mg x = some (.ref f)) (hb : Binds K fd ps []) {R : List PyData → List PyData → Prop} (hlen : ∀ ds es, R ds es → ds.length = ps.length)
    (body : ∀ (cdv : Value) (A : Around) (outer : List Env) (s : Shared) (H : Hp) (E : XK), Room k (A.deeper (envOfC qual (defScope st) s.heap.objs.size f cdv)) →
      ∃ t, PSs (cxOf CX0 P w K mg base Nn qual (defScope st) f cdv A outer s H E).nox (defBody st) t ∧ ∀ (ds : List PyData) (es : List PyData) (F0 H0 : Hp) (Q : VK), R ds es → RtL ⟨K, Tb, F0, H0, F0⟩ Q es → S ⟨K, Tb, F0, H0, F0⟩ t { nx := fun _ H' => Q .non H', rt := Q } (startG Nn.length ds)) :
    Df P w K mg base (k + 1) x ps (spL K Tb R) := by
  refine ⟨f, fd, F.ok Sc (fun vs H Q E h => ?_) (fun cdv A outer s H vs Q E hr h => ?_), hm, F.kp, hb⟩
  · obtain ⟨F, ds, d, _, _, hd, r, _⟩ := h
    exact (dps_len hd).trans (hlen ds d r)
  · obtain ⟨F1, ds, d, sb, ht, hd, r, q⟩ := h
    obtain ⟨t, h1, h2⟩ := body cdv A outer s H E hr
    exact ⟨t, h1, h2 ds d F1 H Q r q _ F1 H (holds_start sb ht hd)⟩
end
end DW

namespace DW
open PySem PySem.Spec PyProof.Rows L2
/-- the built-in names that the module leaves alone -/
structure Zb (mg : Str → Option Value) : Prop where
  len : mg "len" = none
  range : mg "range" = none
  sorted : mg "sorted" = none
  list : mg "list" = none
  tuple : mg "tuple" = none
  int : mg "int" = none
  bool : mg "bool" = none
  str : mg "str" = none
  dict : mg "dict" = none
  set : mg "set" = none
  isinstance : mg "isinstance" = none
  sum : mg "sum" = none
  min : mg "min" = none
  max : mg "max" = none
  enumerate : mg "enumerate" = none
  zip : mg "zip" = none
  any : mg "any" = none
  all : mg "all" = none
  abs : mg "abs" = none
  reversed : mg "reversed" = none
/-- a list, a tuple or a text -/
def iAny (K : PySem.W.Frag) (te : TE) : TI := fun σ H R => iSeq K te σ H R ∨ iStr te σ H R
theorem pi_any {X : Cx} {tg l : Expr} {tl : TE} (hl : PE X l tl) : PI X tg l (iAny X.K tl) := ⟨fun pins s σ H R I h => by
  rcases h with h | h
  · exact (pi_seq hl).run pins s σ H R I h
  · exact (pi_str hl).run pins s σ H R I h⟩
section
variable {g : Gd} {G G' G1 : List Sl} {te ta tb tc : TE} {d x y : PyData} {ds es : List PyData} {i j : Nat}
theorem it_al (h : E g te G (.list ds)) : IT g (iAny g.K te) G ds := fun σ F H hh R r => .inl (it_sl h σ F H hh R r)
theorem it_at (h : E g te G (.tuple ds)) : IT g (iAny g.K te) G ds := fun σ F H hh R r => .inl (it_st h σ F H hh R r)
def sgD (z : Str) : List PyData := z.cps.toList.map fun c => .str ⟨#[c]⟩
theorem it_as {z : Str} (h : E g te G (.str z)) : IT g (iAny g.K te) G (sgD z) := fun σ F H hh R r => .inr (h σ F H hh _ fun v F1 H1 s1 d1 => by
  cases d1
  have ln : (sgD z).length = z.cps.size := by unfold sgD; rw [List.length_map, Array.length_toList]
  refine ⟨z, rfl, r _ F1 H1 s1 ⟨fun i F H _ _ hi => by rw [ln] at hi; exact hi, fun F H _ _ => by rw [ln]; exact Nat.le_refl _, fun i F H x H' d _ sb hd hy => ?_⟩⟩
  obtain ⟨rfl, c, hc, rfl⟩ := hy
  unfold sgD at hd
  rw [List.getElem?_map, Array.getElem?_toList, hc] at hd
  cases hd
  exact ⟨F, Stp.refl sb, .str _⟩)
/-- a constant of the module -/
theorem pe_gc {X : Cx} {x : Str} {v : V} {pos : Pos} (C : ∃ u, X.mg x = some u ∧ RelV v u) (hg : Gl X x) (hd : (x == ("__debug__" : Str)) = false := by decide) : PE X (.Name x pos) (tC v) := by
  obtain ⟨u, h1, h2⟩ := C
  exact pe_glob hg h1 h2 hd
end
/-! ### a statement and what follows it -/
section
variable {g : Gd} {G G' G1 : List Sl} {te ta tb tc : TE} {tt : TT} {t1 t2 tu tw : TS} {d x y : PyData} {ds es : List PyData} {i j : Nat} {D : Ends} {tg : TG} {ix : List Nat}
theorem n_go {rt : VK} {bk ct : L2.St → Hp → Prop} (h : S g tw D G) : N g ({ nx := tw D, rt := rt, bk := bk, ct := ct } : Ends).nx G := h
theorem q_asg (h : E g te G d) (k : S g tw D (G.set i (.fz d))) : S g (tSeq (tAsg te (gName i)) tw) D G := s_asg (D := { D with nx := tw D }) h k
theorem q_asgL (h : EL g te G ds) (k : S g tw D (G.set i (.ow ds))) : S g (tSeq (tAsg te (gName i)) tw) D G := s_asgL (D := { D with nx := tw D }) h k
theorem q_asgT (h : E g te G d) (ht : Tg g tg d G G' ix) (k : S g tw D G') : S g (tSeq (tAsg te tg) tw) D G := s_asgT (D := { D with nx := tw D }) h ht k
theorem q_app (h : G[i]? = some (.ow ds)) (he : E g te G d) (hz : ds.length < 100000) (k : S g tw D (G.set i (.ow (ds ++ [d])))) : S g (tSeq (tDrop (tBM g.K "list" rAppend (tVar i) (tCons te tNil))) tw) D G := s_app (D := { D with nx := tw D }) h he hz k
theorem q_drop (h : E g te G d) (k : S g tw D G) : S g (tSeq (tDrop te) tw) D G := s_drop (D := { D with nx := tw D }) h k
theorem q_aug {f : Int → Int → Int} {a b : Int} (hx : G[i]? = some (.fz (.int a))) (h : E g te G (.int b)) (k : S g tw D (G.set i (.fz (.int (f a b))))) : S g (tSeq (tAug i te (ipI f)) tw) D G := s_aug (D := { D with nx := tw D }) hx h k
theorem q_if {b : Bool} (h : T g tt G b) (h1 : b = true → S g t1 { D with nx := tw D } G) (h2 : b = false → S g t2 { D with nx := tw D } G) : S g (tSeq (tIfS tt t1 t2) tw) D G := s_if (D := { D with nx := tw D }) h h1 h2
theorem q_next (k : S g tw D G) : S g (tSeq tNext tw) D G := k
theorem q_for {α : Type} {wi : TI} (Iv : Nat → α → List Sl) (P : Nat → α → Prop) (it : IT g wi G ds) (a0 : α) (p0 : P 0 a0) (w0 : Wk G (Iv 0 a0))
    (turn : ∀ F1 (i : Nat) (a : α) (d : PyData), ds[i]? = some d → P i a → ∃ G1 ix, Tg { g with Fl := F1 } tg d (Iv i a) G1 ix ∧
      S { g with Fl := F1 } tu { nx := nxI { g with Fl := F1 } (Iv (i + 1)) (P (i + 1)), rt := D.rt, ct := nxI { g with Fl := F1 } (Iv (i + 1)) (P (i + 1)), bk := tw D } G1)
    (done : ∀ a, P ds.length a → S g tw D (Iv ds.length a)) : S g (tSeq (tFor wi tg tu) tw) D G := s_for (D := { D with nx := tw D }) Iv P it a0 p0 w0 turn done
/-- .. one state a turn -/
theorem q_for1 {wi : TI} (Iv : Nat → List Sl) (it : IT g wi G ds) (w0 : Wk G (Iv 0))
    (turn : ∀ F1 (i : Nat) (d : PyData), ds[i]? = some d → ∃ G1 ix, Tg { g with Fl := F1 } tg d (Iv i) G1 ix ∧
      S { g with Fl := F1 } tu { nx := nxI { g with Fl := F1 } (fun _ : Unit => Iv (i + 1)) (fun _ => True), rt := D.rt, ct := nxI { g with Fl := F1 } (fun _ : Unit => Iv (i + 1)) (fun _ => True), bk := tw D } G1)
    (done : S g tw D (Iv ds.length)) : S g (tSeq (tFor wi tg tu) tw) D G :=
  q_for (fun i (_ : Unit) => Iv i) (fun _ _ => True) it () trivial w0 (fun F1 i _ d hd _ => turn F1 i d hd) fun _ _ => done
theorem s_for1 {wi : TI} (Iv : Nat → List Sl) (it : IT g wi G ds) (w0 : Wk G (Iv 0))
    (turn : ∀ F1 (i : Nat) (d : PyData), ds[i]? = some d → ∃ G1 ix, Tg { g with Fl := F1 } tg d (Iv i) G1 ix ∧
      S { g with Fl := F1 } tu { nx := nxI { g with Fl := F1 } (fun _ : Unit => Iv (i + 1)) (fun _ => True), rt := D.rt, ct := nxI { g with Fl := F1 } (fun _ : Unit => Iv (i + 1)) (fun _ => True), bk := D.nx } G1)
    (done : N g D.nx (Iv ds.length)) : S g (tFor wi tg tu) D G :=
  s_for (fun i (_ : Unit) => Iv i) (fun _ _ => True) it () trivial w0 (fun F1 i _ d hd _ => turn F1 i d hd) fun _ _ => done
theorem s_cutA {α : Type} (Iv : α → List Sl) (P : α → Prop) (h : S g tu { D with nx := nxI g Iv P } G) (k : ∀ a, P a → S g tw D (Iv a)) : S g (Evl.tCut tu tw) D G := fun σ F H hh =>
  ⟨nxI g Iv P, h σ F H hh, fun σ' H' ⟨a, p, F', h'⟩ => k a p σ' F' H' h'⟩
theorem s_cut (Gj : List Sl) (h : S g tu { D with nx := nxI g (fun _ : Unit => Gj) fun _ => True } G) (k : S g tw D Gj) : S g (Evl.tCut tu tw) D G := s_cutA (fun _ : Unit => Gj) (fun _ => True) h fun _ _ => k
theorem n_end1 {Iv : List Sl} (w : Wk G Iv) : N g (nxI g (fun _ : Unit => Iv) fun _ => True) G := n_end () trivial w
theorem q_while {α : Type} (Iv : α → List Sl) (P : α → Prop) (m : α → Nat) (a0 : α) (p0 : P a0) (w0 : Wk G (Iv a0))
    (turn : ∀ a, P a → ∃ b, T g tt (Iv a) b ∧ (b = true → S g tu { nx := nxI g Iv (fun a' => P a' ∧ m a' < m a), rt := D.rt, ct := nxI g Iv (fun a' => P a' ∧ m a' < m a), bk := tw D } (Iv a)) ∧ (b = false → S g tw D (Iv a))) : S g (tSeq (tWhile tt tu) tw) D G :=
  s_while (D := { D with nx := tw D }) Iv P m a0 p0 w0 turn
end
end DW

namespace DW
open PySem PySem.Spec PyProof.Rows L2

/-! ### sorted(a list of tuples of ints and texts) -/
abbrev Kt := List (Int ⊕ List Nat)
def itemsV (sh : Nat → Bool) : Nat → List V → Option Kt
  | _, [] => some []
  | i, .int n :: r => if sh i = true then none else (itemsV sh (i + 1) r).map (Sum.inl n :: ·)
  | i, .str x :: r => if sh i = true then (itemsV sh (i + 1) r).map (Sum.inr x.cps.toList :: ·) else none
  | _, _ :: _ => none
theorem items_vals {sh : Nat → Bool} : ∀ {zs : List V} {us : List Value} {i : Nat} {l : Kt}, Vals zs us → itemsV sh i zs = some l → tupItems sh i us = some l
  | [], _, _, _, .nil, h => h
  | .int n :: zs, u :: us, i, l, .cons r t, h => by
    obtain ⟨k, rfl⟩ := r
    have h' : (if sh i = true then none else (itemsV sh (i + 1) zs).map (Sum.inl n :: ·)) = some l := h
    show (if sh i = true then none else (tupItems sh (i + 1) us).map (Sum.inl n :: ·)) = some l
    by_cases hs : sh i = true
    · rw [if_pos hs] at h'; cases h'
    · rw [if_neg hs] at h' ⊢
      cases e : itemsV sh (i + 1) zs with
      | none => rw [e] at h'; cases h'
      | some l' => rw [e] at h'; rw [items_vals t e]; exact h'
  | .str x :: zs, u :: us, i, l, .cons r t, h => by
    obtain ⟨k, rfl⟩ := r
    have h' : (if sh i = true then (itemsV sh (i + 1) zs).map (Sum.inr x.cps.toList :: ·) else none) = some l := h
    show (if sh i = true then (tupItems sh (i + 1) us).map (Sum.inr x.cps.toList :: ·) else none) = some l
    by_cases hs : sh i = true
    · rw [if_pos hs] at h' ⊢
      cases e : itemsV sh (i + 1) zs with
      | none => rw [e] at h'; cases h'
      | some l' => rw [e] at h'; rw [items_vals t e]; exact h'
    · rw [if_neg hs] at h'; cases h'
  | .non :: _, _, _, _, _, h => by cases h
  | .bl _ :: _, _, _, _, _, h => by cases h
  | .byt _ :: _, _, _, _, _, h => by cases h
  | .flt _ :: _, _, _, _, _, h => by cases h
  | .ref _ :: _, _, _, _, _, h => by cases h
  | .ty _ :: _, _, _, _, _, h => by cases h
def rSortT (K : PySem.W.Frag) : List V → Hp → VK → Prop := fun vs H Q => ∃ (a : Addr) (ts : List Addr) (sh : Nat → Bool) (L : List Kt), vs = [V.ref a] ∧ SqL K H a (ts.map V.ref) ∧ ts.length ≤ 100000 ∧ L.length = ts.length ∧
  (∀ p ∈ ts.zip L, ∃ zs, SqT K H p.1 zs ∧ zs ≠ [] ∧ itemsV sh 0 zs = some p.2) ∧
  ∀ (us : List Addr) (Ls : List Kt) (p : Addr), Ls.length = us.length → (us.zip Ls).Perm (ts.zip L) → Ls.Pairwise (fun x y => lexLt itemOrd y x = false) → H p = none → Q (.ref p) (upd H p (.lst (us.map V.ref)))
theorem zip_map_self {α β : Type} (f : α → β) : ∀ (l : List α), l.zip (l.map f) = l.map fun x => (x, f x)
  | [] => rfl
  | x :: l => by rw [List.map_cons, List.zip_cons_cons, zip_map_self f l]; rfl
theorem zip_fun {α β : Type} {f : α → β} : ∀ {l : List α} {m : List β}, m.length = l.length → (∀ p ∈ l.zip m, f p.1 = p.2) → m = l.map f
  | [], [], _, _ => rfl
  | [], _ :: _, h, _ => by simp at h
  | _ :: _, [], h, _ => by simp at h
  | x :: l, y :: m, h, hp => by
    have e := hp (x, y) List.mem_cons_self
    rw [List.map_cons, zip_fun (l := l) (m := m) (by simpa using h) fun p hm => hp p (List.mem_cons_of_mem _ hm)]
    exact congrArg (· :: _) e.symm
theorem swo_key {α : Type} (O : KeyOrd) (k : α → O.α) : SrtO.Swo fun v u => O.blt (k v) (k u) :=
  ⟨fun x y h => by
    cases h2 : O.blt (k y) (k x) with
    | false => rfl
    | true =>
      have := O.trans _ _ _ h h2
      rw [O.irrefl] at this
      exact absurd this Bool.false_ne_true, fun x y z h1 h2 => by
    cases h3 : O.blt (k z) (k x) with
    | false => rfl
    | true =>
      rcases O.negTrans (k z) (k y) (k x) h3 with h | h
      · rw [h2] at h; cases h
      · rw [h1] at h; cases h⟩
theorem refs_vals : ∀ {ts : List Addr} {us : List Value}, Vals (ts.map V.ref) us → us = ts.map Value.ref
  | [], _, .nil => rfl
  | _ :: _, _, .cons r t => by cases r; rw [refs_vals t]; rfl
theorem vals_refs : ∀ (ts : List Addr), Vals (ts.map V.ref) (ts.map Value.ref)
  | [] => .nil
  | _ :: ts => .cons rfl (vals_refs ts)
theorem perm_refs {out : List Value} {ts : List Addr} (h : out.Perm (ts.map Value.ref)) : ∃ us : List Addr, out = us.map Value.ref ∧ us.Perm ts := by
  have inv : ∀ (l : List Value), (∀ v ∈ l, ∃ t, v = Value.ref t) → ∃ us : List Addr, l = us.map Value.ref := by
    intro l
    induction l with
    | nil => intro _; exact ⟨[], rfl⟩
    | cons v l ih =>
      intro hv
      obtain ⟨t, rfl⟩ := hv v List.mem_cons_self
      obtain ⟨us, rfl⟩ := ih fun w hw => hv w (List.mem_cons_of_mem _ hw)
      exact ⟨t :: us, rfl⟩
  obtain ⟨us, rfl⟩ := inv out fun v hv => by
    obtain ⟨t, _, e⟩ := List.mem_map.mp (h.mem_iff.mp hv)
    exact ⟨t, e.symm⟩
  refine ⟨us, rfl, ?_⟩
  have h2 := h.map fun v => match v with | Value.ref t => t | _ => 0
  rw [List.map_map, List.map_map] at h2
  have e : ((fun v => match v with | Value.ref t => t | _ => (0 : Addr)) ∘ Value.ref) = id := by funext t; rfl
  rw [e, List.map_id, List.map_id] at h2
  exact h2
theorem tups_of {h : Heap} {sh : Nat → Bool} : ∀ {ts : List Addr}, (∀ t ∈ ts, ∃ us : List Value, ∃ l, IsTup h t us.toArray ∧ us ≠ [] ∧ tupItems sh 0 us = some l) → ∃ fs, TupsOf h sh (ts.map Value.ref) fs
  | [], _ => ⟨[], .nil⟩
  | t :: ts, hh => by
    obtain ⟨fs, q⟩ := tups_of fun x hx => hh x (List.mem_cons_of_mem _ hx)
    obtain ⟨us, l, ⟨o, h1, h2, n, h3⟩, ne, hi⟩ := hh t List.mem_cons_self
    cases us with
    | nil => exact absurd rfl ne
    | cons u us =>
      refine ⟨u :: fs, .cons ⟨t, o, (u :: us).toArray, n, rfl, h1, h2, h3, by simp, fun hs => ?_, fun hs => ?_⟩ q⟩
      · obtain ⟨k, tk, _, e, _⟩ := tupItems_int hs hi; exact ⟨k, tk, e⟩
      · obtain ⟨k, tk, _, e, _⟩ := tupItems_str hs hi; exact ⟨k, tk, e⟩
theorem cr_sortT5 {X : Cx} : CallR X (.builtin "sorted") (rSortT X.K) := by
  intro pins s σ H vs us Q I r h
  obtain ⟨a, ts, sh, L, rfl, hS, hz, hL, hk, q⟩ := h
  obtain ⟨its, rv, hl, z⟩ := I.list hS
  have e0 := refs_vals rv
  subst e0
  rw [Vals.ref1 r]
  let kf : Addr → Kt := fun t => (PyProof.Rows.G.tupKeyC s.heap sh (.ref t)).getD []
  have key0 : ∀ p ∈ ts.zip L, ∃ us : List Value, IsTup s.heap p.1 us.toArray ∧ us ≠ [] ∧ tupItems sh 0 us = some p.2 ∧ PyProof.Rows.G.tupKeyC s.heap sh (.ref p.1) = some p.2 := fun ⟨t, k⟩ ht => by
    obtain ⟨zs, h1, ne, h2⟩ := hk (t, k) ht
    obtain ⟨us, r1, it, _⟩ := I.tuple h1
    have h3 := items_vals r1 h2
    refine ⟨us, it, fun z => ?_, h3, ?_⟩
    · subst z; cases r1; exact ne rfl
    · obtain ⟨o, g1, g2, n, g3⟩ := it
      have h4 : PyProof.Rows.G.isTupObj s.heap (.ref t) = true := by
        show (match s.heap.get? t with | some o => (match o.cls with | .type n => n == "tuple" | _ => false) | none => false) = true
        rw [g1]
        show (match o.cls with | .type n => n == "tuple" | _ => false) = true
        rw [g2]; rfl
      unfold PyProof.Rows.G.tupKeyC
      rw [if_pos h4]
      show (match s.heap.get? t with | some o => (match o.data with | .seq xs _ => tupItems sh 0 xs.toList | _ => none) | none => none) = _
      rw [g1]
      show (match o.data with | .seq xs _ => tupItems sh 0 xs.toList | _ => none) = _
      rw [g3]
      exact h3
  have eL : L = ts.map kf := zip_fun hL fun p hp => by
    obtain ⟨_, _, _, _, e⟩ := key0 p hp
    show (PyProof.Rows.G.tupKeyC s.heap sh (.ref p.1)).getD [] = _
    rw [e]; rfl
  have key : ∀ t ∈ ts, ∃ us : List Value, IsTup s.heap t us.toArray ∧ us ≠ [] ∧ tupItems sh 0 us = some (kf t) ∧ PyProof.Rows.G.tupKeyC s.heap sh (.ref t) = some (kf t) := fun t ht => by
    refine key0 (t, kf t) ?_
    rw [eL, zip_map_self]
    exact List.mem_map.mpr ⟨t, ht, rfl⟩
  let kv : Value → Kt := fun v => (PyProof.Rows.G.tupKeyC s.heap sh v).getD []
  have sl : sizeLine = 16777216 := sizeLine_eq
  refine SrtO.sorted_ord (ltv := fun v u => (listOrd itemOrd).blt (kv v) (kv u)) (swo_key (listOrd itemOrd) kv) hl.isList (by rw [List.length_map]; omega) (fun h2 h₁ b hb kk h' keep => ?_) fun out hs hb => ?_
  · have kt : PyProof.Rows.G.KeepsTups s.heap h' := fun c o e _ => keep c o (kk c o e).1 (kk c o e).2
    refine ⟨tuples' true, fun Q E hq => ?_, fun p q hp hq => ?_⟩
    · obtain ⟨fs, hf⟩ := tups_of (h := s.heap) (sh := sh) (ts := ts) fun t ht => let ⟨us, g1, g2, g3, _⟩ := key t ht; ⟨us, _, g1, g2, g3⟩
      have lf := PyProof.Rows.G.TupsOf.length hf
      exact tup_kind (s := { s with heap := h' }) (by rw [lf]; omega) (PyProof.Rows.G.TupsOf.keep kt hf) hq
    · have hp' : p.1 ∈ ts.map Value.ref := hp
      have hq' : q.1 ∈ ts.map Value.ref := hq
      obtain ⟨t, ht, et⟩ := List.mem_map.mp hp'
      obtain ⟨u, hu, eu⟩ := List.mem_map.mp hq'
      obtain ⟨_, _, _, _, k1⟩ := key t ht
      obtain ⟨_, _, _, _, k2⟩ := key u hu
      rw [et] at k1
      rw [eu] at k2
      refine PyProof.Rows.G.tupC_ltAt (s := { s with heap := h' }) true kt _ _ p.1 q.1 (kf t) (kf u) k1 k2 ⟨rfl, ?_⟩
      show _ = (listOrd itemOrd).blt (kv p.1) (kv q.1)
      have e1 : kv p.1 = kf t := by show (PyProof.Rows.G.tupKeyC s.heap sh p.1).getD [] = _; rw [k1]; rfl
      have e2 : kv q.1 = kf u := by show (PyProof.Rows.G.tupKeyC s.heap sh q.1).getD [] = _; rw [k2]; rfl
      rw [e1, e2]
  · obtain ⟨us, rfl, pm⟩ := perm_refs hb.perm
    obtain ⟨ep, he⟩ := PyProof.Rows.sortedAll_at s.heap (ts.map Value.ref) (us.map Value.ref).toArray
    have hlen : (us.map V.ref).length ≤ sizeLine := by rw [List.length_map, pm.length_eq]; omega
    have srt : us.Pairwise fun x y => lexLt itemOrd (kf y) (kf x) = false := by
      have h1 := List.pairwise_map.mp hs
      refine h1.imp_of_mem fun {x y} hx hy hxy => ?_
      obtain ⟨_, _, _, _, k1⟩ := key x (pm.mem_iff.mp hx)
      obtain ⟨_, _, _, _, k2⟩ := key y (pm.mem_iff.mp hy)
      have e1 : kv (.ref x) = kf x := by show (PyProof.Rows.G.tupKeyC s.heap sh (.ref x)).getD [] = _; rw [k1]; rfl
      have e2 : kv (.ref y) = kf y := by show (PyProof.Rows.G.tupKeyC s.heap sh (.ref y)).getD [] = _; rw [k2]; rfl
      have hxy' : lexLt itemOrd (kv (.ref y)) (kv (.ref x)) = false := hxy
      rw [e1, e2] at hxy'
      exact hxy'
    exact ⟨.ref _, upd H (s.heap.objs.size + 1) (.lst (us.map V.ref)), I.laid (t' := s.toks) (fun _ _ => PyProof.Rows.sortedAll_old) (Nat.le_succ _) ⟨hlen, us.map Value.ref, ep, vals_refs us, he⟩, rfl, q us (us.map kf) _ (by rw [List.length_map]) (by rw [eL, zip_map_self, zip_map_self]; exact pm.map _) (List.pairwise_map.mpr srt) (I.hok.fresh (Nat.le_succ _))⟩

/-! .. by data -/
def itm : PyData → Int ⊕ List Nat
  | .int n => .inl n
  | .str s => .inr s.cps.toList
  | _ => .inl 0
def keyD : PyData → Kt
  | .tuple l => l.map itm
  | _ => []
def leD (x y : PyData) : Bool := !lexLt itemOrd (keyD y) (keyD x)
def sortD (ds : List PyData) : List PyData := ds.mergeSort leD
/-- every item is an int or a text, as its place says -/
def shD (sh : Nat → Bool) : Nat → List PyData → Bool
  | _, [] => true
  | i, .int _ :: r => !sh i && shD sh (i + 1) r
  | i, .str _ :: r => sh i && shD sh (i + 1) r
  | _, _ :: _ => false
theorem sh_items {K : PySem.W.Frag} {F : Hp} {sh : Nat → Bool} : ∀ {zs : List V} {l : List PyData} {i : Nat}, DpAll K F zs l → shD sh i l = true → itemsV sh i zs = some (l.map itm)
  | _, _, _, .nil, _ => rfl
  | _, .int n :: l, i, .cons h t, e => by
    cases h
    have e' : (!sh i && shD sh (i + 1) l) = true := e
    rw [Bool.and_eq_true] at e'
    obtain ⟨e1, e2⟩ := e'
    show (if sh i = true then none else (itemsV sh (i + 1) _).map (Sum.inl n :: ·)) = _
    have : ¬ sh i = true := by cases h : sh i <;> simp [h] at e1 ⊢
    rw [if_neg this, sh_items t e2]; rfl
  | _, .str x :: l, i, .cons h t, e => by
    cases h
    have e' : (sh i && shD sh (i + 1) l) = true := e
    rw [Bool.and_eq_true] at e'
    obtain ⟨e1, e2⟩ := e'
    show (if sh i = true then (itemsV sh (i + 1) _).map (Sum.inr x.cps.toList :: ·) else none) = _
    rw [if_pos e1, sh_items t e2]; rfl
  | _, .none :: _, _, _, e => by cases e
  | _, .bool _ :: _, _, _, e => by cases e
  | _, .list _ :: _, _, _, e => by cases e
  | _, .tuple _ :: _, _, _, e => by cases e
  | _, .dict _ :: _, _, _, e => by cases e
theorem itm_inj {sh : Nat → Bool} : ∀ {l m : List PyData} {i : Nat}, shD sh i l = true → shD sh i m = true → l.map itm = m.map itm → l = m
  | [], [], _, _, _, _ => rfl
  | [], _ :: _, _, _, _, h => by cases h
  | _ :: _, [], _, _, _, h => by cases h
  | x :: l, y :: m, i, h1, h2, h => by
    rw [List.map_cons, List.map_cons] at h
    injection h with ha hb
    cases x <;> first | cases h1 | skip
    · cases y <;> first | cases h2 | skip
      · have e1 : (!sh i && shD sh (i + 1) l) = true := h1
        have e2 : (!sh i && shD sh (i + 1) m) = true := h2
        rw [Bool.and_eq_true] at e1 e2
        injection ha with ha
        rw [ha, itm_inj e1.2 e2.2 hb]
      · cases ha
    · cases y <;> first | cases h2 | skip
      · cases ha
      · have e1 : (sh i && shD sh (i + 1) l) = true := h1
        have e2 : (sh i && shD sh (i + 1) m) = true := h2
        rw [Bool.and_eq_true] at e1 e2
        injection ha with ha
        rw [itm_inj e1.2 e2.2 hb]
        congr 1
        rename_i s1 s2
        cases s1 with
        | mk c1 => cases s2 with
          | mk c2 => congr 2; exact Array.toList_inj.mp ha
/-- the one sorted arrangement -/
theorem sorted_uniq {α : Type} {R : α → α → Prop} : ∀ {l m : List α}, l.Perm m → (∀ a ∈ l, ∀ b ∈ l, R a b → R b a → a = b) → l.Pairwise R → m.Pairwise R → l = m
  | [], m, p, _, _, _ => by rw [List.nil_perm.mp p]
  | a :: l, [], p, _, _, _ => by have := p.length_eq; simp at this
  | a :: l, b :: m, p, anti, h1, h2 => by
    have e : a = b := by
      have ha : a ∈ b :: m := p.mem_iff.mp List.mem_cons_self
      have hb : b ∈ a :: l := p.mem_iff.mpr List.mem_cons_self
      rcases List.mem_cons.mp ha with e | ha
      · exact e
      · rcases List.mem_cons.mp hb with e | hb'
        · exact e.symm
        · exact anti a List.mem_cons_self b hb ((List.pairwise_cons.mp h1).1 b hb') ((List.pairwise_cons.mp h2).1 a ha)
    subst e
    rw [sorted_uniq ((List.perm_cons a).mp p) (fun x hx y hy => anti x (List.mem_cons_of_mem _ hx) y (List.mem_cons_of_mem _ hy)) (List.pairwise_cons.mp h1).2 (List.pairwise_cons.mp h2).2]
theorem leD_trans (x y z : PyData) (h1 : leD x y = true) (h2 : leD y z = true) : leD x z = true := by
  unfold leD at *
  have a1 : lexLt itemOrd (keyD y) (keyD x) = false := by simpa using h1
  have a2 : lexLt itemOrd (keyD z) (keyD y) = false := by simpa using h2
  cases h3 : lexLt itemOrd (keyD z) (keyD x) with
  | false => rfl
  | true =>
    rcases lex_negTrans (O := itemOrd) _ (keyD y) _ h3 with h | h
    · rw [a2] at h; cases h
    · rw [a1] at h; cases h
theorem leD_total (x y : PyData) : (leD x y || leD y x) = true := by
  unfold leD
  cases h1 : lexLt itemOrd (keyD y) (keyD x) with
  | false => rfl
  | true =>
    cases h2 : lexLt itemOrd (keyD x) (keyD y) with
    | false => rfl
    | true => have := lex_trans (O := itemOrd) _ _ _ h1 h2; rw [lex_irrefl] at this; cases this
theorem sortD_perm (ds : List PyData) : (sortD ds).Perm ds := List.mergeSort_perm ds leD
theorem sortD_sorted (ds : List PyData) : (sortD ds).Pairwise fun x y => leD x y = true := List.pairwise_mergeSort leD_trans leD_total ds
theorem zip_perm {α β : Type} {l m : List α} (p : l.Perm m) : ∀ {ds : List β}, ds.length = m.length → ∃ es : List β, es.length = l.length ∧ (l.zip es).Perm (m.zip ds) := by
  induction p with
  | nil => intro ds h; cases ds with
    | nil => exact ⟨[], rfl, List.Perm.refl _⟩
    | cons _ _ => simp at h
  | cons a _ ih => intro ds h; cases ds with
    | nil => simp at h
    | cons d ds =>
      obtain ⟨es, h1, h2⟩ := ih (ds := ds) (by simpa using h)
      exact ⟨d :: es, by simp [h1], h2.cons (a, d)⟩
  | swap a b l => intro ds h; match ds, h with
    | d1 :: d2 :: ds, h => exact ⟨d2 :: d1 :: ds, by simpa using h, List.Perm.swap _ _ _⟩
    | [_], h => simp at h
    | [], h => simp at h
  | trans _ _ ih1 ih2 => intro ds h; obtain ⟨es, h1, h2⟩ := ih2 (ds := ds) h
                         obtain ⟨fs, h3, h4⟩ := ih1 (ds := es) h1
                         exact ⟨fs, h3, h4.trans h2⟩
theorem dps_zip {K : PySem.W.Frag} {F : Hp} : ∀ {vs : List V} {ds : List PyData}, vs.length = ds.length → (∀ p ∈ vs.zip ds, Dp K F p.1 p.2) → DpAll K F vs ds
  | [], [], _, _ => .nil
  | [], _ :: _, h, _ => by simp at h
  | _ :: _, [], h, _ => by simp at h
  | v :: vs, d :: ds, h, hp => .cons (hp (v, d) List.mem_cons_self) (dps_zip (by simpa using h) fun p hm => hp p (List.mem_cons_of_mem _ hm))
theorem zip_dps {K : PySem.W.Frag} {F : Hp} : ∀ {vs : List V} {ds : List PyData}, DpAll K F vs ds → ∀ p ∈ vs.zip ds, Dp K F p.1 p.2
  | _, _, .nil, p, h => by cases h
  | _, _, .cons a t, p, h => by
    rcases List.mem_cons.mp h with rfl | h
    · exact a
    · exact zip_dps t p h
theorem trip {K : PySem.W.Frag} {F : Hp} : ∀ {us : List Addr} {Ls : List Kt} {es : List PyData}, Ls.length = us.length → es.length = us.length → (∀ t ∈ (us.zip Ls).zip es, Dp K F (.ref t.1.1) t.2 ∧ t.1.2 = keyD t.2) → DpAll K F (us.map V.ref) es ∧ Ls = es.map keyD
  | [], [], [], _, _, _ => ⟨.nil, rfl⟩
  | [], _ :: _, _, h, _, _ => by simp at h
  | [], [], _ :: _, _, h, _ => by simp at h
  | _ :: _, [], _, h, _, _ => by simp at h
  | _ :: _, _ :: _, [], _, h, _ => by simp at h
  | u :: us, k :: Ls, e :: es, h1, h2, h => by
    obtain ⟨a, b⟩ := h ((u, k), e) List.mem_cons_self
    obtain ⟨c, d⟩ := trip (us := us) (Ls := Ls) (es := es) (by simpa using h1) (by simpa using h2) fun t ht => h t (List.mem_cons_of_mem _ ht)
    exact ⟨.cons a c, by rw [List.map_cons, ← d]; exact congrArg (· :: Ls) b⟩
theorem zip3 {K : PySem.W.Frag} {F H : Hp} {sh : Nat → Bool} : ∀ {ts : List Addr} {ds : List PyData}, DpAll K F (ts.map V.ref) ds → (∀ d ∈ ds, ∃ l, d = .tuple l ∧ l ≠ [] ∧ shD sh 0 l = true) → Ex F H →
    (∀ p ∈ ts.zip (ds.map keyD), ∃ zs, SqT K H p.1 zs ∧ zs ≠ [] ∧ itemsV sh 0 zs = some p.2) ∧ (∀ t ∈ (ts.zip (ds.map keyD)).zip ds, Dp K F (.ref t.1.1) t.2 ∧ t.1.2 = keyD t.2)
  | [], [], _, _, _ => ⟨(fun p h => nomatch h), (fun p h => nomatch h)⟩
  | [], _ :: _, h, _, _ => by cases h
  | _ :: _, [], h, _, _ => by cases h
  | u :: ts, d :: ds, h, hd, e => by
    cases h with
    | cons a t =>
      obtain ⟨h1, h2⟩ := zip3 t (fun d hm => hd d (List.mem_cons_of_mem _ hm)) e
      obtain ⟨l, rfl, ne, hs⟩ := hd d List.mem_cons_self
      refine ⟨fun p hp => ?_, fun p hp => ?_⟩
      · rcases List.mem_cons.mp hp with rfl | hp
        · obtain ⟨x, ws, ex, h4, h5⟩ := dp_tq a
          cases ex
          refine ⟨ws, e.t h4, fun z => ?_, sh_items h5 hs⟩
          subst z; cases h5; exact ne rfl
        · exact h1 p hp
      · rcases List.mem_cons.mp hp with rfl | hp
        · exact ⟨a, rfl⟩
        · exact h2 p hp
theorem are_refs {K : PySem.W.Frag} {F : Hp} : ∀ {vs : List V} {ds : List PyData}, DpAll K F vs ds → (∀ d ∈ ds, ∃ l, d = PyData.tuple l) → ∃ ts : List Addr, vs = ts.map V.ref
  | _, _, .nil, _ => ⟨[], rfl⟩
  | _, _, .cons a t, hd => by
    obtain ⟨l, rfl⟩ := hd _ List.mem_cons_self
    obtain ⟨x, ws, rfl, _, _⟩ := dp_tq a
    obtain ⟨ts, rfl⟩ := are_refs t fun d hm => hd d (List.mem_cons_of_mem _ hm)
    exact ⟨x :: ts, rfl⟩
/-- sorted by data -/
theorem sort_core {K : PySem.W.Frag} {F H : Hp} {p : Addr} {vs : List V} {ds : List PyData} {Q : VK} (sh : Nat → Bool) (e : Ex F H) (h1 : SqL K H p vs) (h2 : DpAll K F vs ds) (hd : ∀ d ∈ ds, ∃ l, d = .tuple l ∧ l ≠ [] ∧ shD sh 0 l = true) (hz : ds.length ≤ 100000)
    (q : ∀ p ws, H p = none → DpAll K F ws (sortD ds) → Q (.ref p) (upd H p (.lst ws))) : rSortT K [.ref p] H Q := by
  obtain ⟨ts, rfl⟩ := are_refs h2 fun d hm => let ⟨l, h, _⟩ := hd d hm; ⟨l, h⟩
  have lts : ts.length = ds.length := by have := dps_len h2; rwa [List.length_map] at this
  obtain ⟨z1, z2⟩ := zip3 h2 hd e
  refine ⟨p, ts, sh, ds.map keyD, rfl, h1, by omega, by rw [List.length_map]; omega, z1, fun us Ls r hl hp hs hr => ?_⟩
  obtain ⟨es, le, pe⟩ := zip_perm hp (ds := ds) (by rw [List.length_zip, List.length_map]; omega)
  have lus : us.length = ds.length := by
    have := hp.length_eq
    rw [List.length_zip, List.length_zip, List.length_map] at this
    omega
  have les : es.length = us.length := by rw [le, List.length_zip]; omega
  obtain ⟨c, d⟩ := trip (K := K) (F := F) hl les fun t ht => z2 t (pe.mem_iff.mp ht)
  have pd : es.Perm ds := by
    have m := pe.map Prod.snd
    have f1 : ((us.zip Ls).zip es).map Prod.snd = es := List.map_snd_zip (by rw [List.length_zip]; omega)
    have f2 : ((ts.zip (ds.map keyD)).zip ds).map Prod.snd = ds := List.map_snd_zip (by rw [List.length_zip, List.length_map]; omega)
    rw [f1, f2] at m
    exact m
  have ee : es = sortD ds := by
    refine sorted_uniq (R := fun x y => leD x y = true) (pd.trans (sortD_perm ds).symm) (fun a ha b hb h3 h4 => ?_) ?_ (sortD_sorted ds)
    · obtain ⟨l, rfl, _, s1⟩ := hd a (pd.mem_iff.mp ha)
      obtain ⟨m, rfl, _, s2⟩ := hd b (pd.mem_iff.mp hb)
      unfold leD at h3 h4
      have k := lex_total (O := itemOrd) (keyD (.tuple l)) (keyD (.tuple m)) (by simpa using h4) (by simpa using h3)
      rw [itm_inj s1 s2 k]
    · rw [d] at hs
      exact (List.pairwise_map.mp hs).imp fun {x y} h => by unfold leD; rw [h]; rfl
  rw [← ee] at q
  exact q r _ hr c
section
variable {g : Gd} {G : List Sl} {te : TE} {ds : List PyData}
theorem el_sort (sh : Nat → Bool) (h : E g te G (.list ds)) (hd : ∀ d ∈ ds, ∃ l, d = .tuple l ∧ l ≠ [] ∧ shD sh 0 l = true) (hz : ds.length ≤ 100000) : EL g (tCB (rSortT g.K) (tCons te tNil)) G (sortD ds) := fun σ F H hh Q q => h σ F H hh _ fun v F1 H1 s1 d1 => by
  obtain ⟨p, vs, rfl, h1, h2⟩ := dp_sq d1
  exact sort_core sh s1.i.ex (s1.i.ex.l h1) h2 hd hz fun r ws hr hw => q r ws F1 _ (s1.trans (Stp.mine s1.i hr)) (old_free s1 hr) (s1.i.free hr) upd_same hw
theorem el_sortO {j : Nat} (sh : Nat → Bool) (h : G[j]? = some (.ow ds)) (hd : ∀ d ∈ ds, ∃ l, d = .tuple l ∧ l ≠ [] ∧ shD sh 0 l = true) (hz : ds.length ≤ 100000) : EL g (tCB (rSortT g.K) (tCons (tVar j) tNil)) G (sortD ds) := fun σ F H hh Q q => by
  obtain ⟨o, e, p, vs, ev, h0, hF, hH, hv⟩ := hh.at_ h
  subst ev
  exact ⟨.ref p, e, sort_core sh hh.st.i.ex (.inl (.inl hH)) hv hd hz fun r ws hr hw => q r ws F _ (Stp.mine hh.st.i hr) hr (hh.st.i.free hr) upd_same hw⟩
end
end DW

namespace DW
open PySem PySem.Spec PyProof.Rows L2

/-! ### dicts with text keys, by data -/
def getK (kvs : List (Str × PyData)) (k : Str) : Option PyData := (kvs.find? fun p => decide (p.1 = k)).map (·.2)
def putD (kvs : List (Str × PyData)) (k : Str) (d : PyData) : List (Str × PyData) := if (kvs.any fun p => decide (p.1 = k)) = true then kvs.map (fun p => if p.1 = k then (p.1, d) else p) else kvs ++ [(k, d)]
section
variable {K : PySem.W.Frag} {F H : Hp}
theorem kv_nil : KvOk K F [] [] := ⟨rfl, .nil⟩
theorem kv_cons {u : Key × V} {vs : List (Key × V)} {p : Str × PyData} {kvs : List (Str × PyData)} (h : KvOk K F (u :: vs) (p :: kvs)) : u.1 = Sum.inr p.1 ∧ Dp K F u.2 p.2 ∧ KvOk K F vs kvs := by
  obtain ⟨h1, h2⟩ := h
  rw [List.map_cons, List.map_cons] at h1 h2
  injection h1 with a b
  cases h2 with
  | cons c d => exact ⟨a, c, b, d⟩
theorem kv_mk {u : Key × V} {vs : List (Key × V)} {p : Str × PyData} {kvs : List (Str × PyData)} (a : u.1 = Sum.inr p.1) (b : Dp K F u.2 p.2) (h : KvOk K F vs kvs) : KvOk K F (u :: vs) (p :: kvs) :=
  ⟨by rw [List.map_cons, List.map_cons, a, h.ks], .cons b h.ds⟩
theorem kv_len {vs : List (Key × V)} {kvs : List (Str × PyData)} (h : KvOk K F vs kvs) : vs.length = kvs.length := by
  have := congrArg List.length h.ks
  rwa [List.length_map, List.length_map] at this
theorem inr_dec {x y : Str} : decide ((Sum.inr x : Key) = Sum.inr y) = decide (x = y) := by
  by_cases h : x = y
  · rw [decide_eq_true h, decide_eq_true (by rw [h])]
  · rw [decide_eq_false h, decide_eq_false fun z => h (Sum.inr.inj z)]
theorem kv_get {k : Str} : ∀ {vs : List (Key × V)} {kvs : List (Str × PyData)}, KvOk K F vs kvs → (∀ d, getK kvs k = some d → ∃ v, valV vs (Sum.inr k : Key) = some v ∧ Dp K F v d) ∧ (getK kvs k = none → valV vs (Sum.inr k : Key) = none)
  | [], [], _ => ⟨fun d h => (by cases h), fun _ => rfl⟩
  | [], _ :: _, h => by cases h.ks
  | _ :: _, [], h => by cases h.ks
  | u :: vs, p :: kvs, h => by
    obtain ⟨a, b, c⟩ := kv_cons h
    have ih := kv_get (k := k) c
    unfold getK valV at ih ⊢
    rw [List.find?_cons, List.find?_cons, a, inr_dec]
    by_cases e : p.1 = k
    · rw [decide_eq_true e]
      refine ⟨fun d h => ?_, fun h => (by cases h)⟩
      cases h
      exact ⟨u.2, rfl, b⟩
    · rw [decide_eq_false e]
      exact ih
theorem kv_any {k : Str} : ∀ {vs : List (Key × V)} {kvs : List (Str × PyData)}, KvOk K F vs kvs → (vs.any fun kv => decide (kv.1 = (Sum.inr k : Key))) = (kvs.any fun p => decide (p.1 = k))
  | [], [], _ => rfl
  | [], _ :: _, h => by cases h.ks
  | _ :: _, [], h => by cases h.ks
  | u :: vs, p :: kvs, h => by
    obtain ⟨a, b, c⟩ := kv_cons h
    rw [List.any_cons, List.any_cons, a, inr_dec, kv_any c]
theorem kv_map {k : Str} {v : V} {d : PyData} (hd : Dp K F v d) : ∀ {vs : List (Key × V)} {kvs : List (Str × PyData)}, KvOk K F vs kvs → KvOk K F (vs.map fun kv => if kv.1 = (Sum.inr k : Key) then (kv.1, v) else kv) (kvs.map fun p => if p.1 = k then (p.1, d) else p)
  | [], [], h => h
  | [], _ :: _, h => by cases h.ks
  | _ :: _, [], h => by cases h.ks
  | u :: vs, p :: kvs, h => by
    obtain ⟨a, b, c⟩ := kv_cons h
    rw [List.map_cons, List.map_cons]
    by_cases e : p.1 = k
    · rw [if_pos e, if_pos (by rw [a, e])]
      exact kv_mk a hd (kv_map hd c)
    · rw [if_neg e, if_neg (fun z => e (Sum.inr.inj (a.symm.trans z)))]
      exact kv_mk a b (kv_map hd c)
theorem kv_app {v : V} {d : PyData} {k : Str} (hd : Dp K F v d) : ∀ {vs : List (Key × V)} {kvs : List (Str × PyData)}, KvOk K F vs kvs → KvOk K F (vs ++ [(Sum.inr k, v)]) (kvs ++ [(k, d)])
  | [], [], _ => kv_mk rfl hd kv_nil
  | [], _ :: _, h => by cases h.ks
  | _ :: _, [], h => by cases h.ks
  | u :: vs, p :: kvs, h => by
    obtain ⟨a, b, c⟩ := kv_cons h
    exact kv_mk a b (kv_app hd c)
theorem kv_put {k : Str} {v : V} {d : PyData} {vs : List (Key × V)} {kvs : List (Str × PyData)} (h : KvOk K F vs kvs) (hd : Dp K F v d) : KvOk K F (putK vs (Sum.inr k : Key) v) (putD kvs k d) := by
  unfold putK putD
  rw [kv_any h]
  by_cases e : (kvs.any fun p => decide (p.1 = k)) = true
  · rw [if_pos e, if_pos e]; exact kv_map hd h
  · rw [if_neg e, if_neg e]; exact kv_app hd h
theorem kv_keys {vs : List (Key × V)} {kvs : List (Str × PyData)} (h : KvOk K F vs kvs) : vs.map (·.1) = (kvs.map (·.1)).map Sum.inr := by rw [h.ks, List.map_map]; rfl
theorem dps_strs : ∀ (ks : List Str), DpAll K F (ks.map V.str) (ks.map PyData.str)
  | [] => .nil
  | k :: ks => .cons (.str k) (dps_strs ks)
end
/-- the dict of a slot -/
def Sl.kv : Sl → Option (List (Str × PyData))
  | .od kvs => some kvs
  | .fk kvs => some kvs
  | _ => none
section
variable {g : Gd} {G G' : List Sl} {te ta tb ty tv : TE} {tw : TS} {d x y : PyData} {ds : List PyData} {kvs : List (Str × PyData)} {i j : Nat} {D : Ends}
theorem dict_at {σ : L2.St} {F H : Hp} (hh : Holds g G σ F H) (h : (G[i]?).bind Sl.kv = some kvs) : ∃ p vs, σ[i]? = some (some (.ref p)) ∧ Rd H p (.dK vs) ∧ KvOk g.K F vs kvs := by
  cases e : G[i]? with
  | none => rw [e] at h; cases h
  | some s =>
    rw [e] at h
    obtain ⟨o, eo, ok⟩ := hh.at_ e
    cases s <;> first | cases h | skip
    · obtain ⟨p, vs, rfl, _, _, hH, hk⟩ := ok
      exact ⟨p, vs, eo, .inl hH, hk⟩
    · obtain ⟨p, vs, rfl, hr, hk⟩ := ok
      exact ⟨p, vs, eo, hh.st.i.ex.rd hr (fun _ z => by cases z), hk⟩
theorem rd_h {F H F' H' : Hp} (s : Stp F H F' H') {p : Addr} {vs : List (Key × V)} (h : Rd H p (.dK vs)) : Rd H' p (.dK vs) := s.h.rd h fun _ z => by cases z
/-- d[k] -/
theorem e_dget {k : Str} (h : (G[i]?).bind Sl.kv = some kvs) (hk : E g ty G (.str k)) (e : getK kvs k = some d) : E g (tDGet (tVar i) ty) G d := fun σ F H hh Q q => by
  obtain ⟨p, vs, ev, hr, hv⟩ := dict_at hh h
  refine ⟨.ref p, ev, hk σ F H hh _ fun u F1 H1 s1 d1 => ?_⟩
  cases d1
  obtain ⟨v, e1, e2⟩ := (kv_get hv).1 d e
  exact ⟨p, v, rfl, .inl ⟨vs, .inr k, rd_h s1 hr, rfl, e1.symm⟩, q v F1 H1 s1 (s1.f.dp d v e2)⟩
/-- d.get(k, x) -/
theorem e_dget2 {k : Str} (h : (G[i]?).bind Sl.kv = some kvs) (hk : E g ty G (.str k)) (hx : E g tv G x) : E g (tDGet2 (tVar i) ty tv) G ((getK kvs k).getD x) := fun σ F H hh Q q => by
  obtain ⟨p, vs, ev, hr, hv⟩ := dict_at hh h
  refine ⟨.ref p, ev, p, rfl, .inl ⟨vs, hr⟩, hk σ F H hh _ fun u F1 H1 s1 d1 => hx σ F1 H1 (hh.mono s1) _ fun z F2 H2 s2 d2 => ?_⟩
  cases d1
  refine ⟨valV vs (Sum.inr k : Key), .inl ⟨vs, .inr k, rd_h s2 (rd_h s1 hr), rfl, rfl⟩, ?_⟩
  cases e : getK kvs k with
  | none => rw [e] at q; rw [(kv_get hv).2 e]; exact q z F2 H2 (s1.trans s2) d2
  | some d =>
    obtain ⟨v, e1, e2⟩ := (kv_get hv).1 d e
    rw [e] at q; rw [e1]; exact q v F2 H2 (s1.trans s2) ((s1.trans s2).f.dp d v e2)
/-- a new dict -/
theorem s_dnew (k : N g D.nx (G.set i (.od []))) : S g (tAsg tDNewK (gName i)) D G := fun σ F H hh p hp =>
  k _ F _ ((hh.mono (Stp.mine hh.st.i hp)).set (s := .od []) ⟨p, [], rfl, old_free hh.st hp, hh.st.i.free hp, upd_same, kv_nil⟩ fun _ j t _ e1 m e2 => new_ok hh hp j ⟨t, e1, m⟩ e2)
theorem q_dnew (k : S g tw D (G.set i (.od []))) : S g (tSeq (tAsg tDNewK (gName i)) tw) D G := s_dnew (D := { D with nx := tw D }) k
/-- d[k] = v -/
theorem s_dput {k : Str} (h : G[i]? = some (.od kvs)) (hk : E g ty G (.str k)) (hv : E g tv G d) (hz : kvs.length < 100000) (kk : N g D.nx (G.set i (.od (putD kvs k d)))) : S g (sDPut (tVar i) ty tv) D G := fun σ F H hh => hv σ F H hh _ fun v F1 H1 s1 d1 => by
  obtain ⟨o, e, p, vs, ev, h0, hF, hH, hd⟩ := hh.at_ h
  subst ev
  refine ⟨.ref p, e, hk σ F1 H1 (hh.mono s1) _ fun u F2 H2 s2 d2 => ?_⟩
  cases d2
  have s := s1.trans s2
  have hH1 := s.h.dk hH
  have hF1 := s.n p _ hH hF
  refine ⟨p, upd H2 p (.dK (putK vs (Sum.inr k : Key) v)), rfl, .inl ⟨vs, .inr k, hH1, rfl, Nat.lt_of_lt_of_le (by rw [kv_len hd]; exact hz) (by decide), rfl⟩, ?_⟩
  have hi : i < σ.length := (List.getElem?_eq_some_iff.mp e).1
  have hs : σ.set i (some (.ref p)) = σ := by
    apply List.ext_getElem?
    intro j
    by_cases hj : i = j
    · subst hj; rw [List.getElem?_set_self hi, e]
    · rw [List.getElem?_set_ne hj]
  have base := hh.mono s
  have h1 : Holds g (G.set i .un) σ F2 H2 := base.weak (by rw [List.length_set]) fun j s ej => by
    by_cases hj : i = j
    · subst hj; rw [List.getElem?_set_self (by rw [← hh.len]; exact hi)] at ej; cases ej; exact .inl rfl
    · rw [List.getElem?_set_ne hj] at ej; exact .inr ej
  have other : ∀ (j : Nat) (t : Sl), j ≠ i → G[j]? = some t → t.mine = true → σ[j]? ≠ some (some (.ref p)) := fun j t hj ej m z => hj (hh.apart j i t (.od kvs) p ej h m rfl z e)
  have h2 : Holds g (G.set i .un) σ F2 (upd H2 p (.dK (putK vs (Sum.inr k : Key) v))) := h1.mut h0 hF1 hH1 (fun _ z => by cases z) fun j t ej m => by
    by_cases hj : i = j
    · subst hj; rw [List.getElem?_set_self (by rw [← hh.len]; exact hi)] at ej; cases ej; cases m
    · rw [List.getElem?_set_ne hj] at ej; exact other j t (Ne.symm hj) ej m
  have h3 := h2.set (i := i) (v := .ref p) (s := .od (putD kvs k d)) ⟨p, _, rfl, h0, hF1, upd_same, kv_put (hd.mono s.f) (s2.f.dp d v d1)⟩ fun _ j t hj ej m => by
    rw [List.getElem?_set_ne (Ne.symm hj)] at ej; exact other j t hj ej m
  rw [List.set_set, hs] at h3
  exact kk σ F2 _ h3
theorem q_dput {k : Str} (h : G[i]? = some (.od kvs)) (hk : E g ty G (.str k)) (hv : E g tv G d) (hz : kvs.length < 100000) (kk : S g tw D (G.set i (.od (putD kvs k d)))) : S g (tSeq (sDPut (tVar i) ty tv) tw) D G := s_dput (D := { D with nx := tw D }) h hk hv hz kk

/-! ### list(d), sorted(d) -/
def rListW (K : PySem.W.Frag) : List V → Hp → VK → Prop := fun xs H Q => rListU K xs H Q ∨ rListD xs H Q
theorem uListW {X : Cx} (hc : X.calm = true) : CallR X (.type "list") (rListW X.K) := fun pins s σ H xs us Q I vs h => by
  rcases h with h | h
  · exact uList pins s σ H xs us Q I vs h
  · exact call_list_dK hc pins s σ H xs us Q I vs h
theorem lw_list (h : E g te G (.list ds)) : EL g (tCB (rListW g.K) (tCons te tNil)) G ds := fun σ F H hh Q q => h σ F H hh _ fun v F1 H1 s1 d1 => by
  obtain ⟨a, vs, rfl, h1, h2⟩ := dp_sq d1
  exact .inl ⟨a, vs, rfl, .inl (s1.i.ex.l h1), fun p hp => q p vs F1 _ (s1.trans (Stp.mine s1.i hp)) (old_free s1 hp) (s1.i.free hp) upd_same h2⟩
theorem lw_tup (h : E g te G (.tuple ds)) : EL g (tCB (rListW g.K) (tCons te tNil)) G ds := fun σ F H hh Q q => h σ F H hh _ fun v F1 H1 s1 d1 => by
  obtain ⟨a, vs, rfl, h1, h2⟩ := dp_tq d1
  exact .inl ⟨a, vs, rfl, .inr (s1.i.ex.t h1), fun p hp => q p vs F1 _ (s1.trans (Stp.mine s1.i hp)) (old_free s1 hp) (s1.i.free hp) upd_same h2⟩
theorem lw_own {j : Nat} (h : G[j]? = some (.ow ds)) : EL g (tCB (rListW g.K) (tCons (tVar j) tNil)) G ds := fun σ F H hh Q q => by
  obtain ⟨o, e, p, vs, ev, h0, hF, hH, hd⟩ := hh.at_ h
  subst ev
  exact ⟨.ref p, e, .inl ⟨p, vs, rfl, .inl (.inl (.inl hH)), fun l hl => q l vs F _ (Stp.mine hh.st.i hl) hl (hh.st.i.free hl) upd_same hd⟩⟩
theorem kv_kV {K : PySem.W.Frag} {F : Hp} {vs : List (Key × V)} (h : KvOk K F vs kvs) : vs.map (fun kv => kV kv.1) = (kvs.map (·.1)).map V.str := by
  have e := congrArg (List.map kV) (kv_keys h)
  rw [List.map_map, List.map_map] at e
  exact e
theorem lw_dict {j : Nat} (h : G[j]? = some (.od kvs)) : EL g (tCB (rListW g.K) (tCons (tVar j) tNil)) G ((kvs.map (·.1)).map .str) := fun σ F H hh Q q => by
  obtain ⟨o, e, p, vs, ev, h0, hF, hH, hd⟩ := hh.at_ h
  subst ev
  refine ⟨.ref p, e, .inr ⟨p, vs, rfl, hH, fun l hl => ?_⟩⟩
  rw [kv_kV hd]
  exact q l _ F _ (Stp.mine hh.st.i hl) hl (hh.st.i.free hl) upd_same (dps_strs _)
/-! sorted: tuples, texts, a dict's keys -/
def rSortU (K : PySem.W.Frag) : List V → Hp → VK → Prop := fun vs H Q => rSortT K vs H Q ∨ (∃ (a : Addr) (kvs : List (Key × V)) (ks : List Str), vs = [.ref a] ∧ Rd H a (.dK kvs) ∧ kvs.map (·.1) = ks.map Sum.inr ∧ ks.length < 64 ∧ ∀ ys p, ys.Perm ks → sortedS ys = true → H p = none → Q (.ref p) (upd H p (.lst (ys.map V.str)))) ∨ rSortedS K vs H Q
theorem uSort {X : Cx} (hc : X.calm = true) : CallR X (.builtin "sorted") (rSortU X.K) := fun pins s σ H xs us Q I vs h => by
  rcases h with h | h | h
  · exact cr_sortT5 pins s σ H xs us Q I vs h
  · exact call_sortedD hc pins s σ H xs us Q I vs h
  · exact cr_sortedS pins s σ H xs us Q I vs h
theorem so_own {j : Nat} (sh : Nat → Bool) (h : G[j]? = some (.ow ds)) (hd : ∀ d ∈ ds, ∃ l, d = .tuple l ∧ l ≠ [] ∧ shD sh 0 l = true) (hz : ds.length ≤ 100000) : EL g (tCB (rSortU g.K) (tCons (tVar j) tNil)) G (sortD ds) := fun σ F H hh Q q => by
  obtain ⟨o, e, p, vs, ev, h0, hF, hH, hv⟩ := hh.at_ h
  subst ev
  exact ⟨.ref p, e, .inl (sort_core sh hh.st.i.ex (.inl (.inl hH)) hv hd hz fun r ws hr hw => q r ws F _ (Stp.mine hh.st.i hr) hr (hh.st.i.free hr) upd_same hw)⟩
theorem so_list (sh : Nat → Bool) (h : E g te G (.list ds)) (hd : ∀ d ∈ ds, ∃ l, d = .tuple l ∧ l ≠ [] ∧ shD sh 0 l = true) (hz : ds.length ≤ 100000) : EL g (tCB (rSortU g.K) (tCons te tNil)) G (sortD ds) := fun σ F H hh Q q => h σ F H hh _ fun v F1 H1 s1 d1 => by
  obtain ⟨p, vs, rfl, h1, h2⟩ := dp_sq d1
  exact .inl (sort_core sh s1.i.ex (s1.i.ex.l h1) h2 hd hz fun r ws hr hw => q r ws F1 _ (s1.trans (Stp.mine s1.i hr)) (old_free s1 hr) (s1.i.free hr) upd_same hw)
/-- the order of texts -/
theorem ltc_eq : ∀ (a b : List Nat), ltCps a b = decide (a < b)
  | [], [] => by rw [ltCps.eq_1]; exact (decide_eq_false (List.lt_irrefl _)).symm
  | [], y :: b => by rw [ltCps.eq_2]; exact (decide_eq_true (List.nil_lt_cons _ _)).symm
  | x :: a, [] => by rw [ltCps.eq_3]; exact (decide_eq_false (List.not_lt_nil _)).symm
  | x :: a, y :: b => by
    rw [ltCps.eq_4, ltc_eq a b, Bool.eq_iff_iff, decide_eq_true_iff, List.cons_lt_cons_iff, Bool.or_eq_true, Bool.and_eq_true, decide_eq_true_iff, decide_eq_true_iff, beq_iff_eq]
def ltS (x y : Str) : Bool := decide (x.cps.toList < y.cps.toList)
def leS (x y : Str) : Bool := !ltS y x
def sortS (ks : List Str) : List Str := ks.mergeSort leS
theorem ltS_irr (x : Str) : ltS x x = false := strKind.irrefl x.cps.toList
theorem ltS_trans {x y z : Str} (h1 : ltS x y = true) (h2 : ltS y z = true) : ltS x z = true := strKind.trans _ _ _ h1 h2
theorem ltS_tot {x y : Str} (h1 : ltS x y = false) (h2 : ltS y x = false) : x = y := by
  have := strKind.total x.cps.toList y.cps.toList h1 h2
  cases x with
  | mk a => cases y with
    | mk b => congr 1; exact Array.toList_inj.mp this
theorem leS_trans (x y z : Str) (h1 : leS x y = true) (h2 : leS y z = true) : leS x z = true := by
  unfold leS at *
  have a1 : ltS y x = false := by simpa using h1
  have a2 : ltS z y = false := by simpa using h2
  cases h3 : ltS z x with
  | false => rfl
  | true =>
    rcases strKind.negTrans z.cps.toList y.cps.toList x.cps.toList h3 with h | h
    · have h' : ltS z y = true := h
      rw [a2] at h'; cases h'
    · have h' : ltS y x = true := h
      rw [a1] at h'; cases h'
theorem leS_total (x y : Str) : (leS x y || leS y x) = true := by
  unfold leS
  cases h1 : ltS y x with
  | false => rfl
  | true =>
    cases h2 : ltS x y with
    | false => rfl
    | true => have := ltS_trans h1 h2; rw [ltS_irr] at this; cases this
theorem leS_anti {x y : Str} (h1 : leS x y = true) (h2 : leS y x = true) : x = y := by
  unfold leS at h1 h2; exact ltS_tot (by simpa using h2) (by simpa using h1)
theorem risS_pw : ∀ {l : List Str} {x : Str}, risingS x l = true → (x :: l).Pairwise fun a b => leS a b = true
  | [], x, _ => List.pairwise_singleton _ _
  | y :: l, x, h => by
    rw [risingS.eq_2, Bool.and_eq_true] at h
    have ih := risS_pw h.2
    refine List.pairwise_cons.mpr ⟨fun z hz => ?_, ih⟩
    rcases List.mem_cons.mp hz with e | hz
    · rw [e, leS, ltS, ← ltc_eq]; exact h.1
    · exact leS_trans x y z (by rw [leS, ltS, ← ltc_eq]; exact h.1) ((List.pairwise_cons.mp ih).1 z hz)
theorem sortedS_pw : ∀ {l : List Str}, sortedS l = true → l.Pairwise fun a b => leS a b = true
  | [], _ => List.Pairwise.nil
  | _ :: _, h => risS_pw h
theorem sortS_perm (ks : List Str) : (sortS ks).Perm ks := List.mergeSort_perm ks leS
theorem sortS_sorted (ks : List Str) : (sortS ks).Pairwise fun x y => leS x y = true := List.pairwise_mergeSort leS_trans leS_total ks
theorem sortS_uniq {ys ks : List Str} (p : ys.Perm ks) (h : sortedS ys = true) : ys = sortS ks :=
  sorted_uniq (R := fun x y => leS x y = true) (p.trans (sortS_perm ks).symm) (fun a _ b _ h3 h4 => leS_anti h3 h4) (sortedS_pw h) (sortS_sorted ks)
/-- sorted(d) -/
theorem so_dict (h : (G[i]?).bind Sl.kv = some kvs) (hz : kvs.length < 64) : EL g (tCB (rSortU g.K) (tCons (tVar i) tNil)) G ((sortS (kvs.map (·.1))).map .str) := fun σ F H hh Q q => by
  obtain ⟨p, vs, ev, hr, hv⟩ := dict_at hh h
  refine ⟨.ref p, ev, .inr (.inl ⟨p, vs, kvs.map (·.1), rfl, hr, kv_keys hv, by rw [List.length_map]; exact hz, fun ys r pm so hn => ?_⟩)⟩
  rw [sortS_uniq pm so]
  exact q r _ F _ (Stp.mine hh.st.i hn) hn (hh.st.i.free hn) upd_same (dps_strs _)

/-! ### isinstance, a range with a step -/
theorem e_isiT (h : B g te G (.tuple ds)) : E g (tCB (rIsi g.K) (tCons te (tCons (tC (.ty "tuple")) tNil))) G (.bool true) := fun σ F H hh Q q => h σ F H hh _ fun v F1 H1 s1 d1 => by
  obtain ⟨a, vs, rfl, h1, h2⟩ := dp_tq d1
  refine ⟨.ref a, .ty "tuple", .type "tuple", .type "tuple", true, rfl, .ty "tuple", ?_, by unfold PySem.W.kitOne; rw [if_pos (by decide +kernel)], q _ F1 H1 s1 (.bl true)⟩
  rcases h1 with (h1 | ⟨o, h1⟩) | ⟨o, its, n, e1, e2, _⟩
  · exact .base (.tup h1)
  · exact .fTuple h1
  · exact .kTuple e1 e2
theorem e_isiL (h : B g te G (.list ds)) : E g (tCB (rIsi g.K) (tCons te (tCons (tC (.ty "list")) tNil))) G (.bool true) := fun σ F H hh Q q => h σ F H hh _ fun v F1 H1 s1 d1 => by
  obtain ⟨a, vs, rfl, h1, h2⟩ := dp_sq d1
  refine ⟨.ref a, .ty "list", .type "list", .type "list", true, rfl, .ty "list", ?_, by unfold PySem.W.kitOne; rw [if_pos (by decide +kernel)], q _ F1 H1 s1 (.bl true)⟩
  rcases h1 with (h1 | ⟨o, h1⟩) | ⟨o, its, n, e1, e2, _⟩
  · exact .base (.lst h1)
  · exact .base (.frz h1)
  · exact .kList e1 e2
theorem e_isiS {s : Str} (h : B g te G (.str s)) : E g (tCB (rIsi g.K) (tCons te (tCons (tC (.ty "str")) tNil))) G (.bool true) := fun σ F H hh Q q => h σ F H hh _ fun v F1 H1 s1 d1 => by
  cases d1
  exact ⟨.str s, .ty "str", .type "str", .type "str", true, rfl, .ty "str", .base (.str s), by unfold PySem.W.kitOne; rw [if_pos (by decide +kernel)], q _ F1 H1 s1 (.bl true)⟩
/-- the ints from lo on, by steps -/
def rngC (lo c : Int) (n : Nat) : List PyData := (List.range n).map fun i => .int (lo + (i : Nat) * c)
theorem rngC_len (lo c : Int) (n : Nat) : (rngC lo c n).length = n := by unfold rngC; rw [List.length_map, List.length_range]
theorem rngC_get {lo c : Int} {n i : Nat} {d : PyData} (h : (rngC lo c n)[i]? = some d) : i < n ∧ d = .int (lo + (i : Nat) * c) := by
  unfold rngC at h
  rw [List.getElem?_map] at h
  by_cases hi : i < n
  · rw [List.getElem?_range hi] at h; exact ⟨hi, (Option.some.inj h).symm⟩
  · rw [List.getElem?_eq_none (by rw [List.length_range]; omega)] at h; cases h
theorem it_rng3 {ta : TA} {lo hi c : Int} {n : Nat} (h : A g ta G [.int lo, .int hi, .int c]) (hr : RgC lo hi c n) : IT g (iRng3 ta) G (rngC lo c n) := fun σ F H hh R r => h σ F H hh _ fun vs F1 H1 s1 d1 => by
  cases d1 with
  | cons a t =>
    cases t with
    | cons b t =>
      cases t with
      | cons d t =>
        cases t; cases a; cases b; cases d
        exact ⟨lo, hi, c, n, rfl, hr, r _ F1 H1 s1 ⟨fun i F H _ _ hi => by rw [rngC_len] at hi; exact hi, fun F H _ _ => by rw [rngC_len]; exact Nat.le_refl _, fun i F H x H' d _ sb hd hy => by
          obtain ⟨rfl, rfl⟩ := hy
          obtain ⟨_, rfl⟩ := rngC_get hd
          exact ⟨F, Stp.refl sb, .int _⟩⟩⟩

end

/-! == and != -/
def rEqU (K : PySem.W.Frag) : R2 := fun x y H Q => rEq x y H Q ∨ rEqD K x y H Q
def rNeU (K : PySem.W.Frag) : R2 := fun x y H Q => rNe x y H Q ∨ rNeD K x y H Q
theorem uEq {X : Cx} (hu : X.A.units + 64 < cLine) : OpR X (compareOp .Eq) (rEqU X.K) := op_eq.or (op_eqD hu)
theorem uNe {X : Cx} (hu : X.A.units + 64 < cLine) : OpR X (compareOp .NotEq) (rNeU X.K) := op_ne.or (op_neD hu)
section
variable {g : Gd} {x y : PyData}
theorem eqd (hx : SeqAt.shaped x = true) (hy : SeqAt.shaped y = true) : RB g (rEqU g.K) x y (.bool (PyData.eqv x y)) := fun u v H hu hv Q q => .inr ⟨x, y, hu, hv, hx, hy, q _ (.bl _)⟩
theorem ned (hx : SeqAt.shaped x = true) (hy : SeqAt.shaped y = true) : RB g (rNeU g.K) x y (.bool (!PyData.eqv x y)) := fun u v H hu hv Q q => .inr ⟨x, y, hu, hv, hx, hy, q _ (.bl _)⟩
theorem dec_inj {α β : Type} [DecidableEq α] [DecidableEq β] (f : α → β) (hf : ∀ a b, f a = f b → a = b) (a b : α) : decide (f a = f b) = decide (a = b) := by
  by_cases h : a = b
  · rw [decide_eq_true h, decide_eq_true (by rw [h])]
  · rw [decide_eq_false h, decide_eq_false fun z => h (hf a b z)]
theorem eq_i {a b : Int} : RB g (rEqU g.K) (.int a) (.int b) (.bool (decide (a = b))) := fun u v H hu hv Q q => by
  cases hu; cases hv
  refine .inl ⟨rfl, ?_⟩
  rw [dec_inj V.int fun a b z => V.int.inj z]; exact q _ (.bl _)
theorem ne_i {a b : Int} : RB g (rNeU g.K) (.int a) (.int b) (.bool (!decide (a = b))) := fun u v H hu hv Q q => by
  cases hu; cases hv
  refine .inl ⟨rfl, ?_⟩
  rw [dec_inj V.int fun a b z => V.int.inj z]; exact q _ (.bl _)
theorem eq_s {a b : Str} : RB g (rEqU g.K) (.str a) (.str b) (.bool (decide (a = b))) := fun u v H hu hv Q q => by
  cases hu; cases hv
  refine .inl ⟨rfl, ?_⟩
  rw [dec_inj V.str fun a b z => V.str.inj z]; exact q _ (.bl _)
theorem ne_s {a b : Str} : RB g (rNeU g.K) (.str a) (.str b) (.bool (!decide (a = b))) := fun u v H hu hv Q q => by
  cases hu; cases hv
  refine .inl ⟨rfl, ?_⟩
  rw [dec_inj V.str fun a b z => V.str.inj z]; exact q _ (.bl _)
end

/-! ### defs that take dicts -/
inductive Ag where
  | d (x : PyData)
  | k (kvs : List (Str × PyData))
def AgOk (K : PySem.W.Frag) (F : Hp) (v : V) : Ag → Prop
  | .d x => Dp K F v x
  | .k kvs => ∃ p vs, v = .ref p ∧ Rd F p (.dK vs) ∧ KvOk K F vs kvs
def Ag.sl : Ag → Sl
  | .d x => .fz x
  | .k kvs => .fk kvs
inductive AgAll (K : PySem.W.Frag) (F : Hp) : List V → List Ag → Prop
  | nil : AgAll K F [] []
  | cons {v : V} {a : Ag} {vs : List V} {as : List Ag} (h : AgOk K F v a) (t : AgAll K F vs as) : AgAll K F (v :: vs) (a :: as)
theorem AgOk.mono {K : PySem.W.Frag} {F H : Hp} {v : V} (e : Ex F H) : ∀ {a : Ag}, AgOk K F v a → AgOk K H v a
  | .d x, h => e.dp x v h
  | .k kvs, ⟨p, vs, ev, hr, hk⟩ => ⟨p, vs, ev, e.rd hr (fun _ z => by cases z), hk.mono e⟩
theorem AgAll.mono {K : PySem.W.Frag} {F H : Hp} (e : Ex F H) : ∀ {vs : List V} {as : List Ag}, AgAll K F vs as → AgAll K H vs as
  | _, _, .nil => .nil
  | _, _, .cons h t => .cons (h.mono e) (AgAll.mono e t)
theorem AgAll.len {K : PySem.W.Frag} {F : Hp} : ∀ {vs : List V} {as : List Ag}, AgAll K F vs as → vs.length = as.length
  | _, _, .nil => rfl
  | _, _, .cons _ t => by rw [List.length_cons, List.length_cons, AgAll.len t]
theorem AgAll.get {K : PySem.W.Frag} {F : Hp} : ∀ {vs : List V} {as : List Ag} {i : Nat} {a : Ag}, AgAll K F vs as → as[i]? = some a → ∃ v, vs[i]? = some v ∧ AgOk K F v a
  | _, _, _, _, .nil, e => by simp at e
  | _, _, 0, _, .cons h _, e => by simp at e; subst e; exact ⟨_, rfl, h⟩
  | _, _, i + 1, a, .cons _ t, e => by
    obtain ⟨v, h1, h2⟩ := AgAll.get (i := i) (a := a) t (by simpa using e)
    exact ⟨v, by simpa using h1, h2⟩
def spK (K : PySem.W.Frag) (Tb : List Addr) (R : List Ag → PyData → Prop) : Sp := fun vs H Q _ => ∃ F as d, Sub F H ∧ (∀ P ∈ Tb, GxR.TabG H P) ∧ AgAll K F vs as ∧ R as d ∧ ∀ v F' H', Stp F H F' H' → Dp K F' v d → Q v H'
def startK (n : Nat) (as : List Ag) : List Sl := as.map Ag.sl ++ List.replicate (n - as.length) .un
theorem holds_startK {K : PySem.W.Frag} {Tb : List Addr} {F H : Hp} {vs : List V} {as : List Ag} {Nn : List Str} (sb : Sub F H) (ht : ∀ P ∈ Tb, GxR.TabG H P) (hd : AgAll K F vs as) : Holds ⟨K, Tb, F, H, F⟩ (startK Nn.length as) (L2.start Nn vs) F H := by
  have hl := hd.len
  refine ⟨by unfold L2.start startK; rw [List.length_append, List.length_append, List.length_map, List.length_map, List.length_replicate, List.length_replicate, hl], Stp.refl sb, fun j s o e1 e2 => ?_, fun j k s t p e1 _ m1 _ _ _ => ?_, ht, Ex.refl F⟩
  · unfold startK at e1
    unfold L2.start at e2
    by_cases hj : j < as.length
    · rw [List.getElem?_append_left (by rw [List.length_map]; exact hj), List.getElem?_map] at e1
      rw [List.getElem?_append_left (by rw [List.length_map, hl]; exact hj), List.getElem?_map] at e2
      cases h1 : as[j]? with
      | none => rw [h1] at e1; cases e1
      | some d =>
        rw [h1] at e1; cases e1
        obtain ⟨v, h2, h3⟩ := hd.get h1
        rw [h2] at e2; cases e2
        cases d with
        | d x => exact ⟨v, rfl, h3⟩
        | k kvs => obtain ⟨p, vs, rfl, hr, hk⟩ := h3; exact ⟨p, vs, rfl, hr, hk⟩
    · rw [List.getElem?_append_right (by rw [List.length_map]; omega), List.getElem?_replicate] at e1
      split at e1
      · cases e1; trivial
      · cases e1
  · have no : ∀ (s : Sl), (startK Nn.length as)[j]? = some s → s.mine = false := fun s e => by
      unfold startK at e
      rcases List.mem_append.mp (List.mem_of_getElem? e) with h | h
      · obtain ⟨d, _, rfl⟩ := List.mem_map.mp h; cases d <;> rfl
      · rw [(List.mem_replicate.mp h).2]; rfl
    rw [no s e1] at m1; cases m1
section
variable {g : Gd} {G : List Sl} {te : TE} {ta : TA} {d x : PyData} {as : List Ag} {kvs : List (Str × PyData)} {i : Nat}
def AX (g : Gd) (ta : TA) (G : List Sl) (as : List Ag) : Prop := ∀ σ F H, Holds g G σ F H → ∀ Q : List V → Hp → Prop, (∀ vs F' H', Stp F H F' H' → AgAll g.K H' vs as → Q vs H') → ta σ H Q
theorem ax_nil : AX g tNil G [] := fun σ F H hh Q q => q [] F H (Stp.refl hh.st.i) .nil
theorem ax_d {tr : TA} (h : B g te G x) (hr : AX g tr G as) : AX g (tCons te tr) G (.d x :: as) := fun σ F H hh Q q =>
  h σ F H hh _ fun v F1 H1 s1 d1 => hr σ F1 H1 (hh.mono s1) _ fun vs F2 H2 s2 d2 => q (v :: vs) F2 H2 (s1.trans s2) (.cons (show AgOk g.K H2 v (.d x) from s2.h.dp x v d1) d2)
theorem ax_k {tr : TA} (h : (G[i]?).bind Sl.kv = some kvs) (hr : AX g tr G as) : AX g (tCons (tVar i) tr) G (.k kvs :: as) := fun σ F H hh Q q => by
  obtain ⟨p, vs, ev, hd, hv⟩ := dict_at hh h
  exact ⟨.ref p, ev, hr σ F H hh _ fun ws F2 H2 s2 d2 => q (.ref p :: ws) F2 H2 s2 (.cons (show AgOk g.K H2 (.ref p) (.k kvs) from ⟨p, vs, rfl, rd_h s2 hd, (hv.mono hh.st.i.ex).mono s2.h⟩) d2)⟩
theorem x_call {R : List Ag → PyData → Prop} {Ek : XK} (h : AX g ta G as) (r : R as d) (hs : scalD d = true) : E g (tCall (spK g.K g.T R) [] Ek ta) G d := fun σ F H hh Q q => h σ F H hh _ fun vs F1 H1 s1 d1 => by
  rw [List.append_nil]
  exact ⟨cut H1, as, d, sub_cut H1, (hh.mono s1).tab, d1.mono (ex_cut H1), r, fun v F2 H2 s2 d2 => q v F1 H2 (s1.trans (Stp.back s1.i s2)) (dp_scal hs d2)⟩
end
section
variable {P : Program} {w : World} {K : PySem.W.Frag} {mg : Str → Option Value} {base : Heap} {x qual : Str} {st : Stmt} {f : Addr} {fd : FuncData} {Nn ps : List Str} {k : Nat} {Tb : List Addr}
theorem df_K (F : Fun K x qual st f fd) (Sc : FnScope Nn ps (defScope st)) (hm : mg x = some (.ref f)) (hb : Binds K fd ps []) {R : List Ag → PyData → Prop} (hlen : ∀ as d, R as d → as.length = ps.length)
    (body : ∀ (cdv : Value) (A : Around) (outer : List Env) (s : Shared) (H : Hp) (E : XK), Room k (A.deeper (envOfC qual (defScope st) s.heap.objs.size f cdv)) →
      ∃ t, PSs (cxOf CX0 P w K mg base Nn qual (defScope st) f cdv A outer s H E).nox (defBody st) t ∧ ∀ (as : List Ag) (d : PyData) (F0 H0 : Hp) (Q : VK), R as d → Rt ⟨K, Tb, F0, H0, F0⟩ Q d → S ⟨K, Tb, F0, H0, F0⟩ t { nx := fun _ H' => Q .non H', rt := Q } (startK Nn.length as)) :
    Df P w K mg base (k + 1) x ps (spK K Tb R) := by
  refine ⟨f, fd, F.ok Sc (fun vs H Q E h => ?_) (fun cdv A outer s H vs Q E hr h => ?_), hm, F.kp, hb⟩
  · obtain ⟨F, as, d, _, _, hd, r, _⟩ := h
    exact hd.len.trans (hlen as d r)
  · obtain ⟨F1, as, d, sb, ht, hd, r, q⟩ := h
    obtain ⟨t, h1, h2⟩ := body cdv A outer s H E hr
    exact ⟨t, h1, h2 as d F1 H Q r q _ F1 H (holds_startK sb ht hd)⟩
end
end DW

/-! the operators with the written part named (for comprehensions) -/
namespace DW
open PySem PySem.Spec PyProof.Rows L2
theorem uAddK {X : Cx} (K : PySem.W.Frag) (h : X.K = K := by rfl) : OpR X (binaryOp .Add) (rAddU K) := h ▸ uAdd
theorem uInK {X : Cx} (K : PySem.W.Frag) (h : X.K = K := by rfl) : OpR X (compareOp .In) (rInU K) := h ▸ uIn
theorem uNiK {X : Cx} (K : PySem.W.Frag) (h : X.K = K := by rfl) : OpR X (compareOp .NotIn) (rNiU K) := h ▸ uNi
theorem uEqK {X : Cx} (K : PySem.W.Frag) (hu : X.A.units + 64 < cLine) (h : X.K = K := by rfl) : OpR X (compareOp .Eq) (rEqU K) := h ▸ uEq hu
theorem uNeK {X : Cx} (K : PySem.W.Frag) (hu : X.A.units + 64 < cLine) (h : X.K = K := by rfl) : OpR X (compareOp .NotEq) (rNeU K) := h ▸ uNe hu
theorem ix_seqK {X : Cx} (K : PySem.W.Frag) (h : X.K = K := by rfl) : IxR X (rIx K) := h ▸ ix_seq
theorem uLenK {X : Cx} (K : PySem.W.Frag) (h : X.K = K := by rfl) : CallR X (.builtin "len") (rLenU K) := h ▸ uLen
theorem uListK {X : Cx} (K : PySem.W.Frag) (hc : X.calm = true) (h : X.K = K := by rfl) : CallR X (.type "list") (rListW K) := h ▸ uListW hc
theorem uTupK {X : Cx} (K : PySem.W.Frag) (h : X.K = K := by rfl) : CallR X (.type "tuple") (rTupU K) := h ▸ uTup
theorem uSortK {X : Cx} (K : PySem.W.Frag) (hc : X.calm = true) (h : X.K = K := by rfl) : CallR X (.builtin "sorted") (rSortU K) := h ▸ uSort hc
theorem call_isiK {X : Cx} (K : PySem.W.Frag) (h : X.K = K := by rfl) : CallR X (.builtin "isinstance") (rIsi K) := h ▸ call_isi
theorem uSlK {X : Cx} (K : PySem.W.Frag) (h : X.K = K := by rfl) : SlR X (rSlU K) := h ▸ uSl
def tTru (K : PySem.W.Frag) (te : TE) : TT := fun σ H Q => te σ H fun x H' => ∃ k, TruV K x H' k ∧ Q k H'
theorem pt_truthK {X : Cx} {a : Expr} {ta : TE} (K : PySem.W.Frag) (ha : PE X a ta) (hw : ∀ whole : Sem Value, PySem.isTrue a X.env whole = do let v ← whole; standAt a.pos; holding [v] (truthy v)) (h : X.K = K := by rfl) : PT X a (tTru K ta) := h ▸ pt_truth ha hw
theorem t_tru {g : Gd} {G : List Sl} {te : TE} {d : PyData} {b : Bool} (h : B g te G d) (e : truD d = some b) : T g (tTru g.K te) G b := t_truth h e
theorem pg_tupK {X : Cx} {pos : Pos} {es : List Expr} {k n : Nat} {t : TGs} (K : PySem.W.Frag) (hc : X.calm = true) (ht : PGs X es t) (h1 : (assignEach es X.env).length = n := by rfl) (h2 : List.findIdx? (fun x => x.fst) (assignEach es X.env) = none := by rfl) (h : X.K = K := by rfl) : PG X (.Tuple es k pos) (gTup K n t) := h ▸ pg_tup hc ht h1 h2
end DW
namespace DW
open PySem PySem.Spec PyProof.Rows L2
section
variable {g : Gd} {G : List Sl} {te : TE} {ds : List PyData}
theorem e_tupE (h : E g te G (.list ds)) : E g (tCB (rTupU g.K) (tCons te tNil)) G (.tuple ds) := fun σ F H hh Q q => h σ F H hh _ fun v F1 H1 s1 d1 => by
  obtain ⟨a, vs, rfl, h1, h2⟩ := dp_sq d1
  exact ⟨a, vs, rfl, .inl ⟨s1.i.ex.l h1, fun l hl => by
    have st := Stp.new (o := .tup vs) s1.i hl fun _ z => by cases z
    exact q (.ref l) _ _ (s1.trans st) (.tup (.inl (.inl upd_same)) (st.f.dps ds vs h2))⟩⟩
end
section
variable {P : Program} {w : World} {K : PySem.W.Frag} {mg : Str → Option Value} {base : Heap} {x qual : Str} {st : Stmt} {f : Addr} {fd : FuncData} {Nn ps : List Str} {k : Nat} {Tb : List Addr}
/-- the law itself -/
theorem fn_D (F : Fun K x qual st f fd) (Sc : FnScope Nn ps (defScope st)) {R : List PyData → PyData → Prop} (hlen : ∀ ds d, R ds d → ds.length = ps.length)
    (body : ∀ (cdv : Value) (A : Around) (outer : List Env) (s : Shared) (H : Hp) (E : XK), Room k (A.deeper (envOfC qual (defScope st) s.heap.objs.size f cdv)) →
      ∃ t, PSs (cxOf CX0 P w K mg base Nn qual (defScope st) f cdv A outer s H E).nox (defBody st) t ∧ ∀ (ds : List PyData) (d : PyData) (F0 H0 : Hp) (Q : VK), R ds d → Rt ⟨K, Tb, F0, H0, F0⟩ Q d → S ⟨K, Tb, F0, H0, F0⟩ t { nx := fun _ H' => Q .non H', rt := Q } (startG Nn.length ds)) :
    FnOk P w K mg base CX0 (k + 1) f fd ps (spD K Tb R) := by
  refine F.ok Sc (fun vs H Q E h => ?_) (fun cdv A outer s H vs Q E hr h => ?_)
  · obtain ⟨F, ds, d, _, _, hd, r, _⟩ := h
    exact (dps_len hd).trans (hlen ds d r)
  · obtain ⟨F1, ds, d, sb, ht, hd, r, q⟩ := h
    obtain ⟨t, h1, h2⟩ := body cdv A outer s H E hr
    exact ⟨t, h1, h2 ds d F1 H Q r q _ F1 H (holds_start sb ht hd)⟩
end
theorem dps_ints {K : PySem.W.Frag} {F : Hp} : ∀ (xs : List Int), DpAll K F (xs.map V.int) (xs.map PyData.int)
  | [] => .nil
  | x :: xs => .cons (.int x) (dps_ints xs)
/-- the script as data -/
theorem dp_script {K : PySem.W.Frag} {H : Hp} {a : Addr} {xs : List Int} (h : SqL K H a (xs.map V.int)) : DpAll K (cut H) [.ref a] [.list (xs.map .int)] := .cons (.lst ((ex_cut H).l h) (dps_ints xs)) .nil
end DW

/-! answers known by a property only; None; pop; the end of a recursion -/
namespace DW
open PySem PySem.Spec PyProof.Rows L2
/-- te gives some d with P d -/
def EP (g : Gd) (te : TE) (G : List Sl) (P : PyData → Prop) : Prop := ∀ σ F H, Holds g G σ F H → ∀ Q : VK, (∀ v F' H' d, Stp F H F' H' → P d → Dp g.K F' v d → Q v H') → te σ H Q
def AP (g : Gd) (ta : TA) (G : List Sl) (P : List PyData → Prop) : Prop := ∀ σ F H, Holds g G σ F H → ∀ Q : List V → Hp → Prop, (∀ vs F' H' ds, Stp F H F' H' → P ds → DpAll g.K F' vs ds → Q vs H') → ta σ H Q
def RtP (g : Gd) (rt : VK) (P : PyData → Prop) : Prop := ∀ v F H d, Stp g.F0 g.H0 F H → P d → Dp g.K F v d → rt v H
section
variable {g : Gd} {G : List Sl} {te : TE} {ta tr : TA} {tw : TS} {d x y : PyData} {ds : List PyData} {i j : Nat} {D : Ends} {P P1 : PyData → Prop} {PP : List PyData → Prop}
theorem E.p (h : E g te G d) (p : P d) : EP g te G P := fun σ F H hh Q q => h σ F H hh Q fun v F' H' s hd => q v F' H' d s p hd
theorem EP.mono (h : EP g te G P1) (m : ∀ d, P1 d → P d) : EP g te G P := fun σ F H hh Q q => h σ F H hh Q fun v F' H' d s p hd => q v F' H' d s (m d p) hd
theorem A.p (h : A g ta G ds) (p : PP ds) : AP g ta G PP := fun σ F H hh Q q => h σ F H hh Q fun vs F' H' s hd => q vs F' H' ds s p hd
theorem ap_cons (h : EP g te G P1) (hr : ∀ d, P1 d → AP g tr G fun ds => PP (d :: ds)) : AP g (tCons te tr) G PP := fun σ F H hh Q q =>
  h σ F H hh _ fun v F1 H1 d s1 p1 d1 => hr d p1 σ F1 H1 (hh.mono s1) _ fun vs F2 H2 ds s2 p2 d2 => q (v :: vs) F2 H2 (d :: ds) (s1.trans s2) p2 (.cons (s2.f.dp d v d1) d2)
theorem ap_nil (p : PP []) : AP g tNil G PP := A.p a_nil p
theorem p_tup (h : AP g ta G PP) (hl : ∀ ds, PP ds → ds.length ≤ 100000 ∧ P (.tuple ds)) : EP g (tTup ta) G P := fun σ F H hh Q q => h σ F H hh _ fun vs F1 H1 ds s1 p1 d1 =>
  ⟨by rw [dps_len d1]; exact Nat.le_trans (hl ds p1).1 (by decide), fun p hp => by
    have st := Stp.new (o := .tup vs) s1.i hp fun _ z => by cases z
    exact q (.ref p) _ _ (.tuple ds) (s1.trans st) (hl ds p1).2 (.tup (.inl (.inl upd_same)) (st.f.dps ds vs d1))⟩
theorem s_asgP (h : EP g te G P) (k : ∀ d, P d → N g D.nx (G.set i (.fz d))) : S g (tAsg te (gName i)) D G := fun σ F H hh => h σ F H hh _ fun v F1 H1 d s1 p d1 => k d p _ F1 H1 ((hh.mono s1).setF d1)
theorem q_asgP (h : EP g te G P) (k : ∀ d, P d → S g tw D (G.set i (.fz d))) : S g (tSeq (tAsg te (gName i)) tw) D G := s_asgP (D := { D with nx := tw D }) h k
theorem s_retP (h : EP g te G P) (k : RtP g D.rt P) : S g (tRet te) D G := fun σ F H hh => h σ F H hh _ fun v F1 H1 d s1 p d1 => k v F1 H1 d (hh.st.trans s1) p d1
theorem RtP.of (k : RtP g D.rt P) (p : P d) : Rt g D.rt d := fun v F H s hd => k v F H d s p hd
/-- our list at slot i changes -/
theorem own_set {σ : L2.St} {F H F1 H1 : Hp} {p : Addr} {vs ws : List V} {es : List PyData} (hh : Holds g G σ F H) (h : G[i]? = some (.ow ds)) (e : σ[i]? = some (some (.ref p))) (h0 : g.H0 p = none) (hF : F p = none) (hH : H p = some (.lst vs)) (s1 : Stp F H F1 H1) (hw : DpAll g.K F1 ws es) :
    Holds g (G.set i (.ow es)) σ F1 (upd H1 p (.lst ws)) := by
  have hH1 := s1.h.lst hH
  have hF1 := s1.n p _ hH hF
  have hi : i < σ.length := (List.getElem?_eq_some_iff.mp e).1
  have hs : σ.set i (some (.ref p)) = σ := by
    apply List.ext_getElem?
    intro j
    by_cases hj : i = j
    · subst hj; rw [List.getElem?_set_self hi, e]
    · rw [List.getElem?_set_ne hj]
  have base := hh.mono s1
  have h1 : Holds g (G.set i .un) σ F1 H1 := base.weak (by rw [List.length_set]) fun j s ej => by
    by_cases hj : i = j
    · subst hj; rw [List.getElem?_set_self (by rw [← hh.len]; exact hi)] at ej; cases ej; exact .inl rfl
    · rw [List.getElem?_set_ne hj] at ej; exact .inr ej
  have other : ∀ (j : Nat) (t : Sl), j ≠ i → G[j]? = some t → t.mine = true → σ[j]? ≠ some (some (.ref p)) := fun j t hj ej m z => hj (hh.apart j i t (.ow ds) p ej h m rfl z e)
  have h2 : Holds g (G.set i .un) σ F1 (upd H1 p (.lst ws)) := h1.mut h0 hF1 hH1 (fun _ z => by cases z) fun j t ej m => by
    by_cases hj : i = j
    · subst hj; rw [List.getElem?_set_self (by rw [← hh.len]; exact hi)] at ej; cases ej; cases m
    · rw [List.getElem?_set_ne hj] at ej; exact other j t (Ne.symm hj) ej m
  have h3 := h2.setO (i := i) (ds := es) h0 hF1 upd_same hw fun j hj ⟨t, ej, m⟩ => by
    rw [List.getElem?_set_ne (Ne.symm hj)] at ej; exact other j t hj ej m
  rw [List.set_set, hs] at h3
  exact h3
/-- xs.append(e) -/
theorem s_appP (h : G[i]? = some (.ow ds)) (he : EP g te G P) (hz : ds.length < 100000) (k : ∀ d, P d → N g D.nx (G.set i (.ow (ds ++ [d])))) : S g (tDrop (tBM g.K "list" rAppend (tVar i) (tCons te tNil))) D G := fun σ F H hh => by
  obtain ⟨o, e, p, vs, ev, h0, hF, hH, hd⟩ := hh.at_ h
  subst ev
  refine ⟨.ref p, e, .inl ⟨rfl, vs, .inl (.inl hH)⟩, he σ F H hh _ fun v F1 H1 d s1 p1 d1 => ?_⟩
  exact ⟨p, vs, v, rfl, rfl, s1.h.lst hH, Nat.lt_of_lt_of_le (by rw [dps_len hd]; exact hz) (by decide), k d p1 σ F1 _ (own_set hh h e h0 hF hH s1 (dps_app (s1.f.dps ds vs hd) (.cons d1 .nil)))⟩
theorem q_appP (h : G[i]? = some (.ow ds)) (he : EP g te G P) (hz : ds.length < 100000) (k : ∀ d, P d → S g tw D (G.set i (.ow (ds ++ [d])))) : S g (tSeq (tDrop (tBM g.K "list" rAppend (tVar i) (tCons te tNil))) tw) D G := s_appP (D := { D with nx := tw D }) h he hz k
theorem dps_last {K : PySem.W.Frag} {F : Hp} : ∀ {ds : List PyData} {vs : List V}, DpAll K F vs (ds ++ [d]) → ∃ v, vs[vs.length - 1]? = some v ∧ Dp K F v d ∧ DpAll K F vs.dropLast ds
  | [], _, .cons a t => by cases t; exact ⟨_, rfl, a, .nil⟩
  | x :: ds, _, .cons a t => by
    obtain ⟨v, h1, h2, h3⟩ := dps_last t
    rename_i w vs
    have hl : vs ≠ [] := fun z => by subst z; simp at h1
    refine ⟨v, ?_, h2, ?_⟩
    · cases vs with
      | nil => exact absurd rfl hl
      | cons u us => simpa using h1
    · cases vs with
      | nil => exact absurd rfl hl
      | cons u us => rw [List.dropLast_cons_cons]; exact .cons a h3
/-- x = xs.pop() -/
theorem s_pop (h : G[i]? = some (.ow (ds ++ [d]))) (hij : j ≠ i) (k : N g D.nx ((G.set i (.ow ds)).set j (.fz d))) : S g (tAsg (tBM0 g.K "list" rPop (tVar i)) (gName j)) D G := fun σ F H hh => by
  obtain ⟨o, e, p, vs, ev, h0, hF, hH, hd⟩ := hh.at_ h
  subst ev
  obtain ⟨v, h1, h2, h3⟩ := dps_last hd
  refine ⟨.ref p, e, .inl ⟨rfl, vs, .inl (.inl hH)⟩, p, vs, v, rfl, rfl, hH, h1, ?_⟩
  have z := own_set hh h e h0 hF hH (Stp.refl hh.st.i) h3
  exact k _ F _ (z.setF h2)
theorem q_pop (h : G[i]? = some (.ow (ds ++ [d]))) (hij : j ≠ i) (k : S g tw D ((G.set i (.ow ds)).set j (.fz d))) : S g (tSeq (tAsg (tBM0 g.K "list" rPop (tVar i)) (gName j)) tw) D G := s_pop (D := { D with nx := tw D }) h hij k
/-- x is None -/
def isND : PyData → Bool
  | .none => true
  | _ => false
def rIsNn : R2 := fun x y H Q => y = .non ∧ Q (.bl (decide (x = .non))) H
theorem is_n : RB g rIsNn x .none (.bool (isND x)) := fun u v H hu hv Q q => by
  cases hv
  refine ⟨rfl, ?_⟩
  have e : decide (u = V.non) = isND x := by
    cases hu with
    | non => exact decide_eq_true rfl
    | bl b => exact decide_eq_false fun z => by cases z
    | int b => exact decide_eq_false fun z => by cases z
    | str b => exact decide_eq_false fun z => by cases z
    | lst _ _ => exact decide_eq_false fun z => by cases z
    | tup _ _ => exact decide_eq_false fun z => by cases z
  rw [e]; exact q _ (.bl _)
/-- == of a text and None -/
theorem eq_ns {a : Str} : RB g (rEqU g.K) .none (.str a) (.bool false) := fun u v H hu hv Q q => by
  cases hu; cases hv
  exact .inl ⟨rfl, q _ (.bl false)⟩
end
/-- tuple(xs), xs ours -/
theorem e_tupO {g : Gd} {G : List Sl} {ds : List PyData} {j : Nat} (h : G[j]? = some (.ow ds)) : E g (tCB (rTupU g.K) (tCons (tVar j) tNil)) G (.tuple ds) := fun σ F H hh Q q => by
  obtain ⟨o, e, p, vs, ev, h0, hF, hH, hd⟩ := hh.at_ h
  subst ev
  exact ⟨.ref p, e, p, vs, rfl, .inl ⟨.inl (.inl hH), fun l hl => by
    have st := Stp.new (o := .tup vs) hh.st.i hl fun _ z => by cases z
    exact q (.ref l) _ _ st (.tup (.inl (.inl upd_same)) (st.f.dps ds vs hd))⟩⟩
theorem uIsN {X : Cx} : OpR X (compareOp .Is) rIsNn := op_isN
/-! a def whose answer is known by a property -/
def spA (K : PySem.W.Frag) (Tb : List Addr) (Ad : List PyData → Prop) (R : List PyData → PyData → Prop) : Sp := fun vs H Q _ => ∃ F ds, Sub F H ∧ (∀ P ∈ Tb, GxR.TabG H P) ∧ DpAll K F vs ds ∧ Ad ds ∧ ∀ v F' H' d, Stp F H F' H' → R ds d → Dp K F' v d → Q v H'
theorem p_call {g : Gd} {G : List Sl} {ta : TA} {ds : List PyData} {Ad : List PyData → Prop} {R : List PyData → PyData → Prop} {Ek : XK} (h : A g ta G ds) (a : Ad ds) : EP g (tCall (spA g.K g.T Ad R) [] Ek ta) G (R ds) := fun σ F H hh Q q => h σ F H hh _ fun vs F1 H1 s1 d1 => by
  rw [List.append_nil]
  exact ⟨F1, ds, s1.i, (hh.mono s1).tab, d1, a, fun v F2 H2 d s2 r d2 => q v F2 H2 d (s1.trans s2) r d2⟩
section
variable {P : Program} {w : World} {K : PySem.W.Frag} {mg : Str → Option Value} {base : Heap} {x qual : Str} {st : Stmt} {f : Addr} {fd : FuncData} {Nn ps : List Str} {k : Nat} {Tb : List Addr}
theorem df_A (F : Fun K x qual st f fd) (Sc : FnScope Nn ps (defScope st)) (hm : mg x = some (.ref f)) (hb : Binds K fd ps []) {Ad : List PyData → Prop} {R : List PyData → PyData → Prop} (hlen : ∀ ds, Ad ds → ds.length = ps.length)
    (body : ∀ (cdv : Value) (A : Around) (outer : List Env) (s : Shared) (H : Hp) (E : XK), Room k (A.deeper (envOfC qual (defScope st) s.heap.objs.size f cdv)) →
      ∃ t, PSs (cxOf CX0 P w K mg base Nn qual (defScope st) f cdv A outer s H E).nox (defBody st) t ∧ ∀ (ds : List PyData) (F0 H0 : Hp) (Q : VK), Ad ds → RtP ⟨K, Tb, F0, H0, F0⟩ Q (R ds) → S ⟨K, Tb, F0, H0, F0⟩ t { nx := fun _ H' => Q .non H', rt := Q } (startG Nn.length ds)) :
    Df P w K mg base (k + 1) x ps (spA K Tb Ad R) := by
  refine ⟨f, fd, F.ok Sc (fun vs H Q E h => ?_) (fun cdv A outer s H vs Q E hr h => ?_), hm, F.kp, hb⟩
  · obtain ⟨F, ds, _, _, hd, r, _⟩ := h
    exact (dps_len hd).trans (hlen ds r)
  · obtain ⟨F1, ds, sb, ht, hd, r, q⟩ := h
    obtain ⟨t, h1, h2⟩ := body cdv A outer s H E hr
    exact ⟨t, h1, h2 ds F1 H Q r (fun v F H d s r hd => q v F H d s r hd) _ F1 H (holds_start sb ht hd)⟩
/-- nothing promised: a recursion's end -/
theorem df_no (F : Fun K x qual st f fd) (hm : mg x = some (.ref f)) (hb : Binds K fd ps []) {R : List PyData → PyData → Prop} (no : ∀ ds d, ¬ R ds d) : Df P w K mg base k x ps (spD K Tb R) :=
  ⟨f, fd, ⟨fun vs H Q E h => by obtain ⟨_, _, _, _, _, _, r, _⟩ := h; exact absurd r (no _ _), fun A outer s H args us vs Q E _ _ _ _ h => by obtain ⟨_, _, _, _, _, _, r, _⟩ := h; exact absurd r (no _ _)⟩, hm, F.kp, hb⟩
end
end DW

/-! a held exception with fields of its own: isinstance of a class above its own -/
namespace DW
open PySem PySem.Spec PyProof.Rows L2
def rIsET (K : PySem.W.Frag) (D a : Addr) (d : Option Addr) : List V → Hp → VK → Prop := fun xs H Q => ∃ (C dd : Addr) (fs : List (Str × V)), xs = [.ref a, .ref C] ∧ d = some dd ∧ H dd = some (.xd fs) ∧ PySem.W.isIn K (.ref D) C = true ∧ Q (.bl true) H
theorem call_isET {X : Cx} {a D : Addr} {oe : Obj} {d : Option Addr} {pn : List (Addr × Obj)} (hz : Zc (.ref D) d oe) (hf : ∃ vs, oe.data = .fields vs) : CallR (X.suite a ((a, oe) :: pn)) (.builtin "isinstance") (rIsET X.K D a d) := by
  intro pins s σ H xs us Q I vs h
  obtain ⟨C, dd, fs, rfl, ed, ea, hi, q⟩ := h
  subst ed
  cases vs with
  | cons r1 r2 =>
    cases r2 with
    | cons r3 r4 =>
      cases r4
      rename_i u1 u2
      obtain rfl : u1 = Value.ref a := r1
      obtain rfl : u2 = Value.ref C := r3
      obtain ⟨ha, _⟩ := I.pin (a, oe) (List.mem_append_left _ List.mem_cons_self)
      obtain ⟨vs, hd⟩ := hf
      have hx : ObjOk X.prog X.w H s.heap dd (.xd fs) := I.hok dd _ ea
      obtain ⟨mA, hns, hr⟩ := hx
      obtain ⟨od, ho, hl⟩ := lookIn_ns hns
      have J : PySem.W.InstAt s.heap a oe D (some od) := ⟨ha, hz.1, by unfold PySem.W.notCls; rw [hd] <;> rfl, by rw [hz.2]; exact ho⟩
      exact PySem.W.isi_call I.kIn (fun M => J.type) hi (fun z => by cases z) ⟨.bl true, H, I, rfl, q⟩
end DW
/-! ### exceptions by data -/
namespace DW
open PySem PySem.Spec PyProof.Rows L2
/-- what a call comes to -/
inductive Out where
  | val (d : PyData)
  | exc (C : Addr) (fs : List (Str × PyData))
/-- the fields of an exception -/
structure FsOk (K : PySem.W.Frag) (F : Hp) (ws : List (Str × V)) (fs : List (Str × PyData)) : Prop where
  ns : ws.map (·.1) = fs.map (·.1)
  ds : DpAll K F (ws.map (·.2)) (fs.map (·.2))
theorem FsOk.mono {K : PySem.W.Frag} {F H : Hp} {ws : List (Str × V)} {fs : List (Str × PyData)} (e : Ex F H) (h : FsOk K F ws fs) : FsOk K H ws fs := ⟨h.ns, e.dps _ _ h.ds⟩
theorem FsOk.get {K : PySem.W.Frag} {F : Hp} {n : Str} {d : PyData} : ∀ {ws : List (Str × V)} {fs : List (Str × PyData)}, FsOk K F ws fs → fs.lookup n = some d → ∃ v, ws.lookup n = some v ∧ Dp K F v d
  | [], [], _, e => by cases e
  | [], _ :: _, h, _ => by cases h.ns
  | _ :: _, [], h, _ => by cases h.ns
  | (a, v) :: ws, (b, x) :: fs, h, e => by
    obtain ⟨h1, h2⟩ := h
    rw [List.map_cons, List.map_cons] at h1 h2
    injection h1 with e1 e2
    cases h2 with
    | cons c t =>
      have e1' : a = b := e1
      subst e1'
      rw [List.lookup_cons] at e ⊢
      cases q : n == a with
      | true => rw [q] at e; cases e; exact ⟨v, rfl, c⟩
      | false => rw [q] at e; exact FsOk.get ⟨e2, t⟩ e
def XtOk (g : Gd) (Ek : XK) (C : Addr) (fs : List (Str × PyData)) : Prop := ∀ dx ws F H, Stp g.F0 g.H0 F H → g.H0 dx = none → F dx = none → H dx = some (.xd ws) → FsOk g.K F ws fs → Ek (.ref C) (some dx) H
def OutOk (g : Gd) (Q : VK) (Ek : XK) : Out → Prop
  | .val d => Rt g Q d
  | .exc C fs => XtOk g Ek C fs
/-- a promise that tells what is raised too -/
def spX (K : PySem.W.Frag) (Tb : List Addr) (R : List PyData → Out → Prop) : Sp := fun vs H Q Ek => ∃ F ds o, Sub F H ∧ (∀ P ∈ Tb, GxR.TabG H P) ∧ DpAll K F vs ds ∧ R ds o ∧ OutOk ⟨K, Tb, F, H, F⟩ Q Ek o
/-- __init__(self, x): self.f = x -/
def spI1 (C : Addr) (f : Str) : Sp := fun vs H Q _ => ∃ (a : Addr) (v : V), vs = [.ref a, v] ∧ H a = some (exo a C none) ∧ ∀ dx, H dx = none → dx ≠ a → Q .non (upd (upd H dx (exd dx [(f, v)])) a (exo a C (some dx)))
/-- __init__(self, x, y): self.f = x; self.h = y -/
def spI2 (C : Addr) (f h : Str) : Sp := fun vs H Q _ => ∃ (a : Addr) (v u : V), vs = [.ref a, v, u] ∧ H a = some (exo a C none) ∧ ∀ dx, H dx = none → dx ≠ a → Q .non (upd (upd (upd H dx (exd dx [(f, v)])) a (exo a C (some dx))) dx (exd dx [(h, u), (f, v)]))
theorem init1_t {K : PySem.W.Frag} {C : Addr} {f n1 n2 : Str} {vs : List V} {H : Hp} {Q : VK} {Ek : XK} (hC : OexC K C) (hf : PySem.W.findIn K (.ref C) f = some none) (h : spI1 C f vs H Q Ek) : tOst K f (tVar 0) (tVar 1) { nx := fun _ H' => Q .non H', rt := Q } (L2.start [n1, n2] vs) H := by
  obtain ⟨a, v, rfl, ha, q⟩ := h
  exact ⟨v, rfl, .ref a, rfl, a, C, rfl, hC, hf, .inl ⟨ha, fun dx h1 h2 => q dx h1 h2⟩⟩
theorem init2_t {K : PySem.W.Frag} {C : Addr} {f h n1 n2 n3 : Str} {vs : List V} {H : Hp} {Q : VK} {Ek : XK} (hC : OexC K C) (hf : PySem.W.findIn K (.ref C) f = some none) (hh : PySem.W.findIn K (.ref C) h = some none) (hp : spI2 C f h vs H Q Ek) : tSeq (tOst K f (tVar 0) (tVar 1)) (tOst K h (tVar 0) (tVar 2)) { nx := fun _ H' => Q .non H', rt := Q } (L2.start [n1, n2, n3] vs) H := by
  obtain ⟨a, v, u, rfl, ha, q⟩ := hp
  refine ⟨v, rfl, .ref a, rfl, a, C, rfl, hC, hf, .inl ⟨ha, fun dx h1 h2 => ?_⟩⟩
  refine ⟨u, rfl, .ref a, rfl, a, C, rfl, hC, hh, .inr ⟨dx, [(f, v)], upd_same, ?_, Nat.le_of_ble_eq_true rfl, q dx h1 h2⟩⟩
  rw [upd_ne h2]; exact upd_same
section
variable {g : Gd} {G : List Sl} {te tf : TE} {ta : TA} {d x : PyData} {ds : List PyData} {i j : Nat} {D : Ends} {Ek : XK} {C : Addr} {f h : Str}
theorem heap1 {H : Hp} {a dx : Addr} {o1 o2 o3 o4 : HO} (ha : H a = none) (hne : dx ≠ a) : upd (del (upd (upd (upd H a o1) dx o2) a o3) a) dx o4 = upd H dx o4 := by
  funext b
  by_cases hb : b = dx
  · subst hb; rw [upd_same, upd_same]
  · rw [upd_ne hb, upd_ne hb]
    show (if b = a then none else _) = _
    by_cases hba : b = a
    · rw [if_pos hba, hba, ha]
    · rw [if_neg hba, upd_ne hba, upd_ne hb, upd_ne hba]
/-- raise C(e) -/
theorem s_raise1 (he : E g te G d) (k : XtOk g Ek C [(f, d)]) : S g (fun _ σ H => tMkO C (spI1 C f) [] (tCons te tNil) σ H fun cls dd H' => Ek cls dd H') D G := fun σ F H hh => he σ F H hh _ fun v F1 H1 s1 d1 =>
  ⟨by show 1 ≤ 1000; decide, fun a ha => ⟨a, v, rfl, upd_same, fun dx hdx hne => by
    have hd0 : H1 dx = none := by rw [upd_ne hne] at hdx; exact hdx
    refine ⟨rfl, dx, [(f, v)], upd_same, by rw [upd_ne hne]; exact upd_same, hd0, ?_⟩
    rw [heap1 ha hne]
    exact k dx [(f, v)] F1 _ (hh.st.trans (s1.trans (Stp.mine s1.i hd0))) (old_free (hh.st.trans s1) hd0) (s1.i.free hd0) upd_same ⟨rfl, .cons d1 .nil⟩⟩⟩
theorem heap2 {H : Hp} {a dx : Addr} {o1 o2 o3 o4 o5 : HO} (ha : H a = none) (hne : dx ≠ a) : upd (del (upd (upd (upd (upd H a o1) dx o2) a o3) dx o5) a) dx o4 = upd H dx o4 := by
  funext b
  by_cases hb : b = dx
  · subst hb; rw [upd_same, upd_same]
  · rw [upd_ne hb, upd_ne hb]
    show (if b = a then none else _) = _
    by_cases hba : b = a
    · rw [if_pos hba, hba, ha]
    · rw [if_neg hba, upd_ne hb, upd_ne hba, upd_ne hb, upd_ne hba]
/-- raise C(e, e') -/
theorem s_raise2 (he : E g te G d) (hf : E g tf G x) (k : XtOk g Ek C [(h, x), (f, d)]) : S g (fun _ σ H => tMkO C (spI2 C f h) [] (tCons te (tCons tf tNil)) σ H fun cls dd H' => Ek cls dd H') D G := fun σ F H hh => he σ F H hh _ fun v F0 H0 s0 d0 => hf σ F0 H0 (hh.mono s0) _ fun u F1 H1 s2 d1 =>
  ⟨by show 2 ≤ 1000; decide, fun a ha => ⟨a, v, u, rfl, upd_same, fun dx hdx hne => by
    have s1 := s0.trans s2
    have hd0 : H1 dx = none := by rw [upd_ne hne] at hdx; exact hdx
    refine ⟨rfl, dx, [(h, u), (f, v)], ?_, upd_same, hd0, ?_⟩
    · rw [upd_ne (Ne.symm hne)]; exact upd_same
    · rw [heap2 ha hne]
      exact k dx [(h, u), (f, v)] F1 _ (hh.st.trans (s1.trans (Stp.mine s1.i hd0))) (old_free (hh.st.trans s1) hd0) (s1.i.free hd0) upd_same ⟨rfl, .cons d1 (.cons (s2.f.dp d v d0) .nil)⟩⟩⟩
/-- the exception's slot is emptied behind the suite -/
theorem n_unset {nx : L2.St → Hp → Prop} (k : N g nx (G.set i .un)) : N g (fun σ' H' => nx (σ'.set i none) H') G := fun σ F H hh => k _ F H (hh.wipe [i])
/-- try: y = f(..) / except C as e: suite -/
theorem s_tryX {R : List PyData → Out → Prop} {o : Out} {c : Value} {ts : Addr → Value → Option Addr → TS} {Wout : WX} (ha : A g ta G ds) (r : R ds o)
    (hv : ∀ d, o = .val d → N g D.nx (G.set j (.fz d)))
    (hx : ∀ C fs, o = .exc C fs → PySem.W.exmOne g.K (.ref C) c = some true ∧ ∀ a dx ws F1, F1 dx = some (.xd ws) → FsOk g.K F1 ws fs →
      S { g with Fl := F1 } (ts a (.ref C) (some dx)) { nx := fun σ' H' => D.nx (σ'.set i none) H', rt := D.rt, bk := fun σ' H' => D.bk (σ'.set i none) H', ct := fun σ' H' => D.ct (σ'.set i none) H' } (G.set i (.raw (.ref a)))) :
    S g (fun D σ H => tAsg (tCallS (spX g.K g.T R) (WE (wAs g.K c i ts Wout D)) ta) (gName j) D σ H) D G := fun σ F H hh => ha σ F H hh _ fun vs F1 H1 s1 d1 => by
  refine ⟨F1, ds, o, s1.i, (hh.mono s1).tab, d1, r, ?_⟩
  cases o with
  | val d => exact fun v F2 H2 s2 d2 => hv d rfl _ F2 H2 ((hh.mono (s1.trans s2)).setF d2)
  | exc C fs =>
    intro dx ws F2 H2 s2 h0 hF hH hfs
    obtain ⟨em, hs⟩ := hx C fs rfl
    refine ⟨true, em, fun _ a _ => ?_, fun z => by cases z⟩
    have e : Ex F2 (upd F2 dx (.xd ws)) := fun b u q _ => by rw [upd_ne (ne_of_none q hF)]; exact q
    have st : Stp F1 H1 (upd F2 dx (.xd ws)) H2 := by
      refine ⟨s2.f.trans e, ⟨fun b u q n => ?_, fun b ps q => ?_⟩, s2.h, s2.s, s2.t, fun b u q n => ?_⟩
      · by_cases hb : b = dx
        · subst hb; rw [upd_same] at q; cases q; exact hH
        · rw [upd_ne hb] at q; exact s2.i.ex b u q n
      · by_cases hb : b = dx
        · subst hb; rw [upd_same] at q; cases q
        · rw [upd_ne hb] at q; exact s2.i.nt b ps q
      · rw [upd_ne (ne_of_none q h0)]; exact s2.n b u q n
    have h3 := (hh.mono (s1.trans st)).set (i := i) (v := .ref a) (s := .raw (.ref a)) rfl fun z => by cases z
    exact hs a dx ws _ upd_same (hfs.mono e) _ _ H2 ⟨h3.len, h3.st, h3.sl, h3.apart, h3.tab, Ex.refl _⟩
/-- e.f in the suite -/
theorem e_fld {a dx : Addr} {ws : List (Str × V)} {fs : List (Str × PyData)} {n : Str} (hi : G[i]? = some (.raw (.ref a))) (hd : g.Fl dx = some (.xd ws)) (hf : FsOk g.K g.Fl ws fs) (hl : fs.lookup n = some d) : E g (tXf a (.ref C) (some dx) C n (tVar i)) G d := fun σ F H hh Q q => by
  obtain ⟨o, eo, ok⟩ := hh.at_ hi
  obtain rfl : o = some (.ref a) := ok
  have hF : F dx = some (.xd ws) := hh.lo dx _ hd fun _ z => by cases z
  have hH : H dx = some (.xd ws) := hh.st.i.ex dx _ hF fun _ z => by cases z
  obtain ⟨v, e1, e2⟩ := FsOk.get (hf.mono hh.lo) hl
  exact ⟨.ref a, eo, rfl, rfl, dx, ws, v, rfl, hH, e1, q v F H (Stp.refl hh.st.i) e2⟩
/-- isinstance(e, C2) in the suite, C2 above e's class -/
theorem e_isiX {a dx C2 : Addr} {ws : List (Str × V)} (hi : G[i]? = some (.raw (.ref a))) (hd : g.Fl dx = some (.xd ws)) (hC : PySem.W.isIn g.K (.ref C) C2 = true) : E g (tCB (rIsET g.K C a (some dx)) (tCons (tVar i) (tCons (tC (.ref C2)) tNil))) G (.bool true) := fun σ F H hh Q q => by
  obtain ⟨o, eo, ok⟩ := hh.at_ hi
  obtain rfl : o = some (.ref a) := ok
  have hF : F dx = some (.xd ws) := hh.lo dx _ hd fun _ z => by cases z
  have hH : H dx = some (.xd ws) := hh.st.i.ex dx _ hF fun _ z => by cases z
  exact ⟨.ref a, eo, C2, dx, ws, rfl, rfl, hH, hC, q _ F H (Stp.refl hh.st.i) (.bl true)⟩
end
/-- a def at hand that may raise -/
structure DfX (P : Program) (w : World) (K : PySem.W.Frag) (mg : Str → Option Value) (base : Heap) (k : Nat) (x : Str) (ps : List Str) (sp : Sp) : Prop where
  ex : ∃ f fd, FnOk P w K mg base (L2.CX P w) k f fd ps sp ∧ mg x = some (.ref f) ∧ PySem.W.keepIn K (.ref f) = true ∧ Binds K fd ps []
section
variable {P : Program} {w : World} {K : PySem.W.Frag} {mg : Str → Option Value} {base : Heap} {x qual : Str} {st : Stmt} {f : Addr} {fd : FuncData} {Nn ps : List Str} {k : Nat} {Tb : List Addr}
theorem df_X (F : Fun K x qual st f fd) (Sc : FnScope Nn ps (defScope st)) (hm : mg x = some (.ref f)) (hb : Binds K fd ps []) {R : List PyData → Out → Prop} (hlen : ∀ ds o, R ds o → ds.length = ps.length)
    (body : ∀ (cdv : Value) (A : Around) (outer : List Env) (s : Shared) (H : Hp) (E : XK), Room k (A.deeper (envOfC qual (defScope st) s.heap.objs.size f cdv)) →
      ∃ t, PSs (cxOf (L2.CX P w) P w K mg base Nn qual (defScope st) f cdv A outer s H E) (defBody st) t ∧ ∀ (ds : List PyData) (o : Out) (F0 H0 : Hp) (Q : VK), R ds o → OutOk ⟨K, Tb, F0, H0, F0⟩ Q E o → S ⟨K, Tb, F0, H0, F0⟩ t { nx := fun _ H' => Q .non H', rt := Q } (startG Nn.length ds)) :
    DfX P w K mg base (k + 1) x ps (spX K Tb R) := by
  refine ⟨f, fd, F.okX Sc (fun vs H Q E h => ?_) (fun cdv A outer s H vs Q E hr h => ?_), hm, F.kp, hb⟩
  · obtain ⟨F, ds, o, _, _, hd, r, _⟩ := h
    exact (dps_len hd).trans (hlen ds o r)
  · obtain ⟨F1, ds, o, sb, ht, hd, r, q⟩ := h
    obtain ⟨t, h1, h2⟩ := body cdv A outer s H E hr
    exact ⟨t, h1, h2 ds o F1 H Q r q _ F1 H (holds_start sb ht hd)⟩
end
end DW

/-! the class of a held exception with fields of its own, at the library's level -/
namespace DW
open PySem PySem.Spec PyProof.Rows L2
theorem xg1 : builtinKind "getset_descriptor.__get__" = some Manifest.AttrKind.slot := by kernel_rfl
theorem xg2 : splitId "getset_descriptor.__get__" = some ("getset_descriptor", "__get__") := by kernel_rfl
theorem xg3 : plainId "getset_descriptor.__get__" = true := by kernel_rfl
theorem xg4 (a b c : Value) : argsOk "getset_descriptor.__get__" { pos := [a, b, c] } := by first | kernel_rfl | (unfold argsOk; kernel_rfl)
theorem xg5 : entryFor table "getset_descriptor.__get__" = some Builtin.«getset_descriptor.__get__» := by kernel_rfl
theorem xg6 : isSubtype (.type "getset_descriptor") (.type "getset_descriptor") = pure true := by kernel_rfl
theorem xg7 : Builtin.Getset_descriptor.descrNameAndClass (.builtin "object.__class__") = pure (("__class__" : Str), Value.type "object") := by kernel_rfl
theorem xb1 : builtinKind "BaseException.__getattribute__" = some Manifest.AttrKind.slot := by kernel_rfl
theorem xb2 : splitId "BaseException.__getattribute__" = some ("BaseException", "__getattribute__") := by kernel_rfl
theorem xb3 : plainId "BaseException.__getattribute__" = true := by kernel_rfl
theorem xb4 (a b : Value) : argsOk "BaseException.__getattribute__" { pos := [a, b] } := by first | exact PySem.F.args_object_getattribute_2 a b | kernel_rfl | (unfold argsOk; kernel_rfl)
theorem xb5 : entryFor table "BaseException.__getattribute__" = some Builtin.«object.__getattribute__» := by kernel_rfl
theorem xb6 : typeOf (.builtin "BaseException.__getattribute__") = pure (.type "wrapper_descriptor") := by first | rfl | kernel_rfl
theorem pure_wp {α : Type} {M : Model} {A : Around} {E : Value → Shared → Prop} {s : Shared} {a : α} {Q : α → Shared → Prop} (h : Q a s) : wpAny M A (pure a) Q E s := wpAny_pure h
end DW

/-! isinstance of a held exception with fields of its own, both answers -/
namespace DW
open PySem PySem.Spec PyProof.Rows L2
section
variable {prog : Program} {w : World} {A : Around} {E : Value → Shared → Prop} {s : Shared} {K : PySem.W.Frag} {x D : Addr} {ox : Obj} {odo : Option Obj}
theorem run_xg {args : Args} {R : Result → Shared → Prop} (h : wpAny (model prog w) (Around.in1 A) (checkBuiltinCall "getset_descriptor.__get__" args) (fun _ s₁ => wpAny (model prog w) (Around.in1 A) (Builtin.«getset_descriptor.__get__» args) (fun fin s' => match fin with | Fin.done f => R (.ok f) s' | Fin.again c' => c'.quiet = true ∧ codeAny (model prog w) A c' R s') (fun e s' => R (.error e) s') s₁) (fun e s' => R (.error e) s') s) : codeAny (model prog w) A (.call (.builtin "getset_descriptor.__get__") args) R s := codeAny_call_builtin xg3 xg5 h
theorem cls_got {Q : Value → Shared → Prop} (X : K.In s.heap) (J : PySem.W.InstAt s.heap x ox D odo) (hm : PySem.W.mroIn K D (.type "object") = some true) (q : Q (.ref D) s) : wpAny (model prog w) A (call (.builtin "getset_descriptor.__get__") [.builtin "object.__class__", .ref x, .ref D]) Q E s := by
  refine wpAny_call ?_
  refine run_xg ?_
  refine PySem.W.check_slot (i := "getset_descriptor.__get__") (owner := "getset_descriptor") (n := "__get__") (self := .builtin "object.__class__") (rest := [.ref x, .ref D]) (kw := []) xg1 xg2 ?_ (xg4 (.builtin "object.__class__") (.ref x) (.ref D)) ?_
  · intro A Q E s' hk q
    unfold PySem.isInstance
    rw [PySem.F.typeOf_object_class]
    show wpAny _ _ (isSubtype (.type "getset_descriptor") (.type "getset_descriptor")) _ _ _
    rw [xg6]
    exact wpAny_pure q
  · show wpAny _ _ (Builtin.Getset_descriptor.descrGetter (.builtin "object.__class__") (some (.ref x))) _ _ _
    unfold Builtin.Getset_descriptor.descrGetter
    refine wpAny_bind ?_
    unfold Builtin.Getset_descriptor.descrCheckInstance
    rw [xg7]
    refine wpAny_bind (wpAny_pure ?_)
    refine wpAny_bind ?_
    unfold PySem.isInstance
    refine wpAny_bind (J.type _ _ _ _ (fun _ _ h => h) ?_)
    have sb : PySem.W.Looks (model prog w) s.heap (isSubtype (.ref D) (.type "object")) true := PySem.W.looks_subIn X (t := .ref D) hm
    refine sb _ _ _ _ (fun _ _ h => h) ?_
    show wpAny _ _ (pure ()) _ _ _
    refine wpAny_pure ?_
    show wpAny _ _ (again (Code.builtin "object.__class__" { pos := [.ref x] })) _ _ _
    refine wpAny_pure ?_
    refine ⟨by first | kernel_rfl | with_unfolding_all rfl | (unfold Code.quiet; kernel_rfl), ?_⟩
    refine codeAny_builtin PySem.F.entry_object_class ?_
    show wpAny _ _ (do let t ← shownTypeOf (.ref x); ret t) _ _ _
    refine wpAny_bind ?_
    unfold PySem.shownTypeOf
    refine wpAny_bind (J.type _ _ _ _ (fun _ _ h => h) ?_)
    show wpAny _ _ (pure (Value.ref D)) _ _ _
    refine wpAny_pure ?_
    exact wpAny_pure q
theorem run_xb {args : Args} {R : Result → Shared → Prop} (h : wpAny (model prog w) (Around.in1 A) (checkBuiltinCall "BaseException.__getattribute__" args) (fun _ s₁ => wpAny (model prog w) (Around.in1 A) (Builtin.«object.__getattribute__» args) (fun fin s' => match fin with | Fin.done f => R (.ok f) s' | Fin.again c' => c'.quiet = true ∧ codeAny (model prog w) A c' R s') (fun e s' => R (.error e) s') s₁) (fun e s' => R (.error e) s') s) : codeAny (model prog w) A (.call (.builtin "BaseException.__getattribute__") args) R s := codeAny_call_builtin xb3 xb5 h
theorem fo_cls (hd : PySem.W.hasDictIn K D = true) (ha : PySem.W.findIn K (.ref D) "__class__" = some (some (.builtin "object.__class__"))) (hn : PySem.W.specialIn K (.builtin "object.__class__") "__get__" = some (some (.builtin "getset_descriptor.__get__"))) (ht : PySem.W.takesIn K (.builtin "object.__class__") = some true) {od : Option Obj} : PySem.W.findObj K D od "__class__" = some (.bind (.builtin "getset_descriptor.__get__") (.builtin "object.__class__")) := by
  unfold PySem.W.findObj
  have hc : ∃ cd, PySem.W.clsIn K D = some cd := by
    unfold PySem.W.hasDictIn at hd
    cases q : PySem.W.clsIn K D with
    | none => rw [q] at hd; cases hd
    | some cd => exact ⟨cd, rfl⟩
  obtain ⟨cd, hc⟩ := hc
  simp [hc, ha, hn, ht]
theorem exc_class {Q : Option Value → Shared → Prop} (ga : PySem.W.findIn K (.ref D) "__getattribute__" = some (some (.builtin "BaseException.__getattribute__"))) (gg : PySem.W.findIn K (.ref D) "__getattr__" = some none) (hs : PySem.W.subIn K (.ref D) (.type "BaseException") = some true) (hd : PySem.W.hasDictIn K D = true)
    (ha : PySem.W.findIn K (.ref D) "__class__" = some (some (.builtin "object.__class__"))) (hn : PySem.W.specialIn K (.builtin "object.__class__") "__get__" = some (some (.builtin "getset_descriptor.__get__"))) (ht : PySem.W.takesIn K (.builtin "object.__class__") = some true) (hm : PySem.W.mroIn K D (.type "object") = some true)
    (X : K.In s.heap) (J : PySem.W.InstAt s.heap x ox D odo) (q : Q (some (.ref D)) { heap := s.heap, gens := s.gens, drawn := s.drawn, toks := s.toks + 1, os := s.os }) : wpAny (model prog w) A (getAttr? (.ref x) "__class__") Q E s := by
  have fo := fo_cls hd ha hn ht (od := odo)
  unfold PySem.getAttr?
  refine wpAny_bind (wpAny_mkText ?_)
  unfold PySem.getAttrBy?
  refine wpAny_bind (wpAny_attempt ?_)
  unfold PySem.getAttrBy
  refine wpAny_holding ?_
  refine wpAny_bind (J.type _ _ _ _ (fun _ _ h => h) ?_)
  refine wpAny_bind (PySem.W.looks_findIn X ga _ _ _ _ (fun _ _ h => h) ?_)
  show wpAny _ _ (getAttrByItsOwn (.ref x) _ (.ref D) (.builtin "BaseException.__getattribute__") false false) _ _ _
  unfold PySem.getAttrByItsOwn
  refine wpAny_bind ?_
  show wpAny _ _ (typeLookup (.ref D) "__getattr__") _ _ _
  refine PySem.W.looks_findIn X gg _ _ _ _ (fun _ _ h => h) ?_
  refine wpAny_bind (wpAny_attempt ?_)
  refine wpAny_holding ?_
  show wpAny _ _ (boundAndCalled (.builtin "BaseException.__getattribute__") (.ref x) _) _ _ _
  unfold PySem.boundAndCalled
  refine wpAny_bind ?_
  unfold PySem.bindSpecial
  rw [xb6]
  refine wpAny_bind (wpAny_pure ?_)
  show wpAny _ _ (pure (Value.builtin "BaseException.__getattribute__", [Value.ref x])) _ _ _
  refine wpAny_pure ?_
  refine wpAny_call ?_
  refine run_xb ?_
  refine PySem.W.check_slot (i := "BaseException.__getattribute__") (owner := "BaseException") (n := "__getattribute__") (self := .ref x) (rest := [.str "__class__" s.toks]) (kw := []) xb1 xb2 ?_ (xb4 (.ref x) (.str "__class__" s.toks)) ?_
  · intro A Q E s' hk q
    unfold PySem.isInstance
    exact wpAny_bind (J.type _ _ _ _ hk (PySem.W.looks_subIn X (t := .ref D) hs _ _ _ _ hk q))
  · unfold Builtin.«object.__getattribute__»
    have e : slotArgs "__getattribute__" 1 { pos := [Value.ref x] ++ [Value.str "__class__" s.toks] } = pure (Value.ref x, [Value.str "__class__" s.toks]) := rfl
    rw [e]
    refine wpAny_bind (wpAny_pure ?_)
    refine wpAny_bind ?_
    show wpAny _ _ (pure ("__class__" : Str)) _ _ _
    refine wpAny_pure ?_
    refine wpAny_bind (J.type _ _ _ _ (fun _ _ h => h) ?_)
    refine wpAny_bind (PySem.W.looks_find X J fo _ _ _ _ (fun _ _ h => h) ?_)
    show wpAny _ _ (do let v ← holding [Value.builtin "object.__class__"] (call (.builtin "getset_descriptor.__get__") [.builtin "object.__class__", .ref x, .ref D]); ret v) _ _ _
    refine wpAny_bind (wpAny_holding (cls_got X J hm ?_))
    refine wpAny_pure ?_
    show wpAny _ _ (pure (Value.ref D)) _ _ _
    refine wpAny_pure ?_
    show wpAny _ _ (pure (some (Value.ref D))) _ _ _
    exact wpAny_pure q
end
/-- what the written part tells of an exception class with __init__ -/
structure EcOk (K : PySem.W.Frag) (D : Addr) : Prop where
  ga : PySem.W.findIn K (.ref D) "__getattribute__" = some (some (.builtin "BaseException.__getattribute__"))
  gg : PySem.W.findIn K (.ref D) "__getattr__" = some none
  hs : PySem.W.subIn K (.ref D) (.type "BaseException") = some true
  hd : PySem.W.hasDictIn K D = true
  ha : PySem.W.findIn K (.ref D) "__class__" = some (some (.builtin "object.__class__"))
  hn : PySem.W.specialIn K (.builtin "object.__class__") "__get__" = some (some (.builtin "getset_descriptor.__get__"))
  ht : PySem.W.takesIn K (.builtin "object.__class__") = some true
  hm : PySem.W.mroIn K D (.type "object") = some true
theorem kitx_ex {K : PySem.W.Frag} {x D : Addr} {ox od : Obj} (T : EcOk K D) (sh : Shared) : PySem.W.KitX K (.ref x) (.ref D) fun h => PySem.W.InstAt h x ox D (some od) :=
  ⟨fun M h X J => J.type, fun M h X J => PySem.W.mc_isType (s := { sh with heap := h }) X T.hd, (PySem.W.handS_kitx_exc (x := x) (ox := ox) T.ga T.gg T.hs T.hd T.ha T.hn T.ht T.hm).ne,
    fun X J q => exc_class T.ga T.gg T.hs T.hd T.ha T.hn T.ht T.hm X J q⟩
def rIsEX (K : PySem.W.Frag) (D a : Addr) (d : Option Addr) : List V → Hp → VK → Prop := fun xs H Q => ∃ (c : V) (cv : Value) (b : Bool) (dd : Addr) (fs : List (Str × V)), xs = [.ref a, c] ∧ (∀ u, RelV c u → u = cv) ∧ d = some dd ∧ H dd = some (.xd fs) ∧ PySem.W.kitOne K (.ref D) cv = some b ∧ Q (.bl b) H
theorem call_isEX {X : Cx} {a D : Addr} {oe : Obj} {d : Option Addr} {pn : List (Addr × Obj)} (T : EcOk X.K D) (hz : Zc (.ref D) d oe) (hf : ∃ vs, oe.data = .fields vs) : CallR (X.suite a ((a, oe) :: pn)) (.builtin "isinstance") (rIsEX X.K D a d) := by
  intro pins s σ H xs us Q I vs h
  obtain ⟨c, cv, b, dd, fs, rfl, hc, ed, ea, hi, q⟩ := h
  subst ed
  cases vs with
  | cons r1 r2 =>
    cases r2 with
    | cons r3 r4 =>
      cases r4
      rename_i u1 u2
      obtain rfl : u1 = Value.ref a := r1
      obtain rfl : u2 = cv := hc _ r3
      obtain ⟨ha, _⟩ := I.pin (a, oe) (List.mem_append_left _ List.mem_cons_self)
      obtain ⟨vs, hd⟩ := hf
      have hx : ObjOk X.prog X.w H s.heap dd (.xd fs) := I.hok dd _ ea
      obtain ⟨mA, hns, hr⟩ := hx
      obtain ⟨od, ho, hl⟩ := lookIn_ns hns
      have J : PySem.W.InstAt s.heap a oe D (some od) := ⟨ha, hz.1, by unfold PySem.W.notCls; rw [hd] <;> rfl, by rw [hz.2]; exact ho⟩
      exact PySem.W.kia_one (kitx_ex T s) I.kIn J hi (fun z => by cases z) fun tk => ⟨.bl b, H, I.tok _, rfl, q⟩
/-- isinstance(e, C2) in the suite, either answer -/
theorem e_isiE {g : Gd} {G : List Sl} {i : Nat} {a dx C2 D : Addr} {ws : List (Str × V)} {b : Bool} (hi : G[i]? = some (.raw (.ref a))) (hd : g.Fl dx = some (.xd ws)) (hC : PySem.W.kitOne g.K (.ref D) (.ref C2) = some b) : E g (tCB (rIsEX g.K D a (some dx)) (tCons (tVar i) (tCons (tC (.ref C2)) tNil))) G (.bool b) := fun σ F H hh Q q => by
  obtain ⟨o, eo, ok⟩ := hh.at_ hi
  obtain rfl : o = some (.ref a) := ok
  have hF : F dx = some (.xd ws) := hh.lo dx _ hd fun _ z => by cases z
  have hH : H dx = some (.xd ws) := hh.st.i.ex dx _ hF fun _ z => by cases z
  exact ⟨.ref a, eo, .ref C2, .ref C2, b, dx, ws, rfl, fun u r => r, rfl, hH, hC, q _ F H (Stp.refl hh.st.i) (.bl b)⟩
end DW

/-! list(range(a, b, c)), max and min of two ints, isinstance of ints and bools, == of bools -/
namespace DW
open PySem PySem.Spec PyProof.Rows L2
def rMax2 : List V → Hp → VK → Prop := fun xs H Q => ∃ i j, xs = [.int i, .int j] ∧ Q (.int (if j > i then j else i)) H
def rMin2 : List V → Hp → VK → Prop := fun xs H Q => ∃ i j, xs = [.int i, .int j] ∧ Q (.int (if j < i then j else i)) H
theorem uMax2 {X : Cx} (hc : X.calm = true) : CallR X (.builtin "max") rMax2 := call_max2 hc
theorem uMin2 {X : Cx} (hc : X.calm = true) : CallR X (.builtin "min") rMin2 := call_min2 hc
/-- list(range(i, j, c)) -/
def rgV3 (i c : Int) (n : Nat) : List V := (List.range n).map fun k => V.int (i + (k : Nat) * c)
def tLstR3 (ta : TA) : TE := fun σ H Q => ta σ H fun vs H1 => ∃ (i j c : Int) (n : Nat), vs = [.int i, .int j, .int c] ∧ RgC i j c n ∧ n ≤ 2 ^ 24 ∧ ∀ q, H1 q = none → Q (.ref q) (upd H1 q (.lst (rgV3 i c n)))
theorem vals_rg3 {i c : Int} {n : Nat} {acc : Array Value} (h : ItemsOf (fun k v => ∃ t, v = .int (i + k * c) t) acc n) : Vals (rgV3 i c n) acc.toList := by
  have e : acc.toList.length = n := by rw [Array.length_toList]; exact h.1
  unfold rgV3
  rw [← e]
  refine vals_of_get acc.toList _ fun j u hj => ?_
  obtain ⟨t, rfl⟩ := h.2 j u (by rw [← hj, Array.getElem?_toList])
  exact ⟨t, rfl⟩
theorem pe_listR3 {X : Cx} {a b c : Expr} {ta : TA} {p p2 pos pos2 : Pos} (hc : X.calm = true) (hg : Gl X "list") (hm : X.mg "list" = none) (hg2 : Gl X "range") (hm2 : X.mg "range" = none) (ha : PA X [a, b, c] ta)
    (na : starEach [Expr.Call (.Name "range" p2) [a, b, c] [] pos2] X.env = (false, eval (.Call (.Name "range" p2) [a, b, c] [] pos2) X.env) :: starEach [] X.env := by rfl)
    (hs : starEach [a, b, c] X.env = (false, eval a X.env) :: starEach [b, c] X.env := by rfl) (hpl : (backTo pos2 (starEach [b, c] X.env)).any (·.1) = false := by rfl) :
    PE X (.Call (.Name "list" p) [.Call (.Name "range" p2) [a, b, c] [] pos2] [] pos) (tLstR3 ta) := by
  refine ⟨fun pins s σ H Q I h => ?_⟩
  refine Call_ (ld_blt I hg hm boot_list (PyProof.Rows.callWith_type1 (args_cons (thn (Q := fun x s' => ∃ r i j k t u v n H', x = .ref r ∧ IsRange s'.heap r i j k t u v ∧ Inv X pins σ H' s' ∧ RgC i j k n ∧ n ≤ 2 ^ 24 ∧ ∀ q, H' q = none → Q (.ref q) (upd H' q (.lst (rgV3 i k n)))) ?_ fun x s1 hx => args_nil ?_) na) na))
  · refine Call_ (ld_blt I hg2 hm2 boot_range (PyProof.Rows.callWith_type1 (thn (ha.run pos2 pins s σ H _ I h) fun us s1 ⟨vs, H1, I1, r1, q1⟩ => ?_) hs hpl))
    obtain ⟨i, j, k, n, e, ⟨c0, c1, c2, c3⟩, hn, q⟩ := q1
    subst e
    cases r1 with
    | cons r rr =>
      cases rr with
      | cons r' rr =>
        cases rr with
        | cons r'' rr =>
          cases rr
          obtain ⟨t, rfl⟩ := r
          obtain ⟨t', rfl⟩ := r'
          obtain ⟨t'', rfl⟩ := r''
          refine call_range_3 c0 ?_ (.inl (PyProof.noPylong_small c1))
          exact ⟨_, i, j, k, _, _, _, n, H1, rfl, IsRange.new _ _ _ _ _ _ _, I1.kept (t' := s1.toks) fun b u e => Heap.get?_push_of_some _ e, ⟨c0, c1, c2, c3⟩, hn, q⟩
  · obtain ⟨r, i, j, k, t, u, v, n, H1, ex, hr, I1, ⟨c0, c1, c2, c3⟩, hn, q⟩ := hx
    subst ex
    refine call_list_range (n := n) (I1.ok.hd hc) hr c2 c3 hn fun h' tk acc c' hk e' hi => ?_
    refine ⟨.ref s1.heap.objs.size, upd H1 s1.heap.objs.size (.lst (rgV3 i k n)), I1.laid hk (Nat.le_refl _) (show ObjOk X.prog X.w _ _ _ (.lst (rgV3 i k n)) from ⟨?_, acc.toList, c', vals_rg3 hi, ?_⟩), rfl, q _ (I1.hok.fresh (Nat.le_refl _))⟩
    · unfold rgV3; rw [List.length_map, List.length_range, sizeLine_eq]; omega
    · rw [Array.toArray_toList]; exact e'
/-- a range with a positive step -/
def nR3 (a b c : Int) : Nat := if a < b then ((b - a - 1) / c + 1).toNat else 0
theorem rgC_pos {a b c : Int} (h0 : 0 < c) (h1 : c ≤ 1000000) (h2 : -1000000000 ≤ a) (h3 : a ≤ 1000000000) (h4 : -1000000000 ≤ b) (h5 : b ≤ 1000000000) : RgC a b c (nR3 a b c) ∧ nR3 a b c ≤ (b - a).toNat := by
  have z : a < b → 0 ≤ (b - a - 1) / c ∧ (b - a - 1) / c ≤ b - a - 1 := fun h => ⟨Int.ediv_nonneg (by omega) (by omega), Int.ediv_le_self _ (by omega)⟩
  have e : Builtin.Range.rangeSize a b c = (nR3 a b c : Int) := by
    unfold Builtin.Range.rangeSize nR3
    rw [if_pos (by omega : c > 0)]
    split
    · rename_i h; have := z h; omega
    · rfl
  have l : nR3 a b c ≤ (b - a).toNat := by
    unfold nR3
    split
    · rename_i h; have := z h; omega
    · omega
  refine ⟨⟨by omega, by omega, ?_, e⟩, l⟩
  unfold Builtin.Range.small
  rw [e]
  simp only [Builtin.Range.rangeFitsLong, Bool.and_eq_true, Bool.or_eq_true, decide_eq_true_eq, beq_iff_eq, if_pos (show c > 0 by omega)]
  omega
section
variable {g : Gd} {G : List Sl} {te ta tb tc : TE} {tt tu : TT} {d x y z : PyData} {ds es : List PyData} {i : Nat}
theorem max_i {a b : Int} : C1 g rMax2 [.int a, .int b] (.int (if b > a then b else a)) := fun vs H h Q q => by
  cases h with
  | cons h1 h => cases h with
    | cons h2 h => cases h; cases h1; cases h2; exact ⟨a, b, rfl, q _ (.int _)⟩
theorem min_i {a b : Int} : C1 g rMin2 [.int a, .int b] (.int (if b < a then b else a)) := fun vs H h Q q => by
  cases h with
  | cons h1 h => cases h with
    | cons h2 h => cases h; cases h1; cases h2; exact ⟨a, b, rfl, q _ (.int _)⟩
theorem dps_rg3 {K : PySem.W.Frag} {F : Hp} (i c : Int) (n : Nat) : DpAll K F (rgV3 i c n) (rngC i c n) := by
  unfold rgV3 rngC
  induction n with
  | zero => exact .nil
  | succ n ih => rw [List.range_succ, List.map_append, List.map_append]; exact dps_app ih (.cons (.int _) .nil)
theorem el_rg3 {ta : TA} {lo hi c : Int} {n : Nat} (h : A g ta G [.int lo, .int hi, .int c]) (hr : RgC lo hi c n) (hn : n ≤ 100000) : EL g (tLstR3 ta) G (rngC lo c n) := fun σ F H hh Q q => h σ F H hh _ fun vs F1 H1 s1 d1 => by
  cases d1 with
  | cons h1 d1 => cases d1 with
    | cons h2 d1 => cases d1 with
      | cons h3 d1 =>
        cases d1; cases h1; cases h2; cases h3
        exact ⟨lo, hi, c, n, rfl, hr, by omega, fun p hp => q p _ F1 _ (s1.trans (Stp.mine s1.i hp)) (old_free s1 hp) (s1.i.free hp) upd_same (dps_rg3 lo c n)⟩
theorem isi_ib {K : PySem.W.Frag} : PySem.W.kitOne K (.type "int") (.type "bool") = some false := by
  unfold PySem.W.kitOne; rw [if_neg (by decide +kernel)]; rfl
theorem e_isiI {n : Int} (h : B g te G (.int n)) : E g (tCB (rIsi g.K) (tCons te (tCons (tC (.ty "int")) tNil))) G (.bool true) := fun σ F H hh Q q => h σ F H hh _ fun v F1 H1 s1 d1 => by
  cases d1
  exact ⟨.int n, .ty "int", .type "int", .type "int", true, rfl, .ty "int", .base (.int n), by unfold PySem.W.kitOne; rw [if_pos (by decide +kernel)], q _ F1 H1 s1 (.bl true)⟩
theorem e_isiIb {n : Int} (h : B g te G (.int n)) : E g (tCB (rIsi g.K) (tCons te (tCons (tC (.ty "bool")) tNil))) G (.bool false) := fun σ F H hh Q q => h σ F H hh _ fun v F1 H1 s1 d1 => by
  cases d1
  exact ⟨.int n, .ty "bool", .type "int", .type "bool", false, rfl, .ty "bool", .base (.int n), isi_ib, q _ F1 H1 s1 (.bl false)⟩
theorem e_isiBb {b : Bool} (h : B g te G (.bool b)) : E g (tCB (rIsi g.K) (tCons te (tCons (tC (.ty "bool")) tNil))) G (.bool true) := fun σ F H hh Q q => h σ F H hh _ fun v F1 H1 s1 d1 => by
  cases d1
  exact ⟨.bl b, .ty "bool", .type "bool", .type "bool", true, rfl, .ty "bool", .base (.bl b), by unfold PySem.W.kitOne; rw [if_pos (by decide +kernel)], q _ F1 H1 s1 (.bl true)⟩
theorem eqv_bool (a b : Bool) : PyData.eqv (.bool a) (.bool b) = decide (a = b) := by cases a <;> cases b <;> rfl
theorem shp_bool (a : Bool) : SeqAt.shaped (.bool a) = true := by cases a <;> decide +kernel
theorem eq_b {a b : Bool} : RB g (rEqU g.K) (.bool a) (.bool b) (.bool (decide (a = b))) := eqv_bool a b ▸ eqd (shp_bool a) (shp_bool b)
theorem ne_b {a b : Bool} : RB g (rNeU g.K) (.bool a) (.bool b) (.bool (!decide (a = b))) := eqv_bool a b ▸ ned (shp_bool a) (shp_bool b)
end
end DW

/-! slices of tuples, is not None, options as data -/
namespace DW
open PySem PySem.Spec PyProof.Rows L2
theorem uSlA {X : Cx} (K : PySem.W.Frag) (h : X.K = K := by rfl) : SlR X (rSlA K) := h ▸ sl_tupA
def rNotN : R2 := fun x y H Q => y = .non ∧ Q (.bl (!decide (x = .non))) H
theorem uNotN {X : Cx} : OpR X (compareOp .IsNot) rNotN := op_notN
section
variable {g : Gd} {G : List Sl} {te ta tb tc : TE} {tt tu : TT} {d x y z : PyData} {ds es : List PyData} {i : Nat}
theorem nis_n : RB g rNotN x .none (.bool (!isND x)) := fun u v H hu hv Q q => by
  cases hv
  refine ⟨rfl, ?_⟩
  have e : decide (u = V.non) = isND x := by
    cases hu with
    | non => exact decide_eq_true rfl
    | bl b => exact decide_eq_false fun z => by cases z
    | int b => exact decide_eq_false fun z => by cases z
    | str b => exact decide_eq_false fun z => by cases z
    | lst _ _ => exact decide_eq_false fun z => by cases z
    | tup _ _ => exact decide_eq_false fun z => by cases z
  rw [e]; exact q _ (.bl _)
theorem e_slA {to tp : TO} {lo hi : Option Int} (h : E g te G (.tuple ds)) (hl : O g to G lo) (hu : O g tp G hi) : E g (tSl (rSlA g.K) te to tp) G (.tuple (cutD ds lo hi)) := fun σ F H hh Q q =>
  h σ F H hh _ fun v F1 H1 s1 d1 => hl σ F1 H1 (hh.mono s1) _ fun F2 H2 s2 => hu σ F2 H2 ((hh.mono s1).mono s2) _ fun F3 H3 s3 => by
    have d3 := s3.f.dp _ v (s2.f.dp _ v d1)
    obtain ⟨a, vs, rfl, h1, h2⟩ := dp_tq d3
    have ss := (s1.trans s2).trans s3
    refine ⟨a, vs, rfl, s3.i.ex.t h1, fun hw => ?_, fun _ p hp => ?_⟩
    · have e : cutD ds lo hi = ds := by
        have l := dps_len h2
        rw [l] at hw
        unfold cutD
        rw [hw.1, hw.2, List.drop_zero, Nat.sub_zero, List.take_length]
      exact q _ F3 H3 ss (by rw [e]; exact d3)
    · have st := Stp.new (o := .tup (cutV vs lo hi)) s3.i hp fun _ z => by cases z
      exact q (.ref p) _ _ (ss.trans st) (.tup (.inl (.inl upd_same)) (st.f.dps _ _ (cut_dps h2)))
end
def oD : Option Int → PyData
  | none => .none
  | some x => .int x
theorem isND_oD (x : Option Int) : isND (oD x) = x.isNone := by cases x <;> rfl
end DW

/-! [x] * n -/
namespace DW
open PySem PySem.Spec PyProof.Rows L2
section
variable {g : Gd} {G : List Sl} {te ta tb tc : TE} {tt tu : TT} {d x y z : PyData} {ds es : List PyData} {i : Nat}
theorem flat_rep {α : Type} (x : α) : ∀ n : Nat, (List.replicate n [x]).flatten = List.replicate n x
  | 0 => rfl
  | n + 1 => by rw [List.replicate_succ, List.flatten_cons, flat_rep x n]; rfl
theorem dps_rep {K : PySem.W.Frag} {F : Hp} {v : V} (h : Dp K F v d) : ∀ n : Nat, DpAll K F (List.replicate n v) (List.replicate n d)
  | 0 => .nil
  | n + 1 => .cons h (dps_rep h n)
theorem el_rep {k : Int} (h : EL g ta G [d]) (hb : E g tb G (.int k)) (h1 : k ≤ 100000) (h0 : -100000 ≤ k) : EL g (tOp rRep ta tb) G (List.replicate k.toNat d) := fun σ F H hh Q q =>
  h σ F H hh _ fun p vs F1 H1 s1 p0 pF pH d1 => hb σ F1 H1 (hh.mono s1) _ fun w F2 H2 s2 d2 => by
    cases d2
    cases d1 with
    | cons dv dr =>
      cases dr
      have e2 := s2.h.lst pH
      refine ⟨p, k, _, rfl, rfl, e2, by omega, by omega, ?_, fun r hr => ?_⟩
      · show 1 * k.toNat ≤ _
        have : sizeLine = 16777216 := sizeLine_eq
        omega
      · rw [flat_rep]
        have ss := s1.trans s2
        exact q r _ F2 _ (ss.trans (Stp.mine s2.i hr)) (old_free ss hr) (s2.i.free hr) upd_same (dps_rep (s2.f.dp _ _ dv) _)
end
end DW

/-! all([..]), any([..]) of bools -/
namespace DW
open PySem PySem.Spec PyProof.Rows L2
theorem uAllK {X : Cx} (K : PySem.W.Frag) (hc : X.calm = true) (h : X.K = K := by rfl) : CallR X (.builtin "all") (rAll K) := h ▸ cr_all hc
theorem uAnyK {X : Cx} (K : PySem.W.Frag) (hc : X.calm = true) (h : X.K = K := by rfl) : CallR X (.builtin "any") (rAny K) := h ▸ cr_any hc
section
variable {g : Gd}
theorem dps_bls {K : PySem.W.Frag} {F : Hp} : ∀ {vs : List V} {bs : List Bool}, DpAll K F vs (bs.map .bool) → vs = bs.map V.bl
  | _, [], h => by cases h; rfl
  | _, b :: bs, h => by
    cases h with
    | cons h1 h2 => cases h1; rw [dps_bls h2]; rfl
theorem all_b {bs : List Bool} : C1 g (rAll g.K) [.list (bs.map .bool)] (.bool (bs.all id)) := fun vs H h Q q => by
  obtain ⟨v, rfl, hw⟩ := ab_one h
  obtain ⟨a, ws, rfl, h1, h2⟩ := dp_sq hw
  rw [dps_bls h2] at h1
  exact ⟨a, bs, rfl, h1, q _ (.bl _)⟩
theorem any_b {bs : List Bool} : C1 g (rAny g.K) [.list (bs.map .bool)] (.bool (bs.any id)) := fun vs H h Q q => by
  obtain ⟨v, rfl, hw⟩ := ab_one h
  obtain ⟨a, ws, rfl, h1, h2⟩ := dp_sq hw
  rw [dps_bls h2] at h1
  exact ⟨a, bs, rfl, h1, q _ (.bl _)⟩
end
end DW

/-! all, any of a generator expression whose element calls: the body runs in a context of its own -/
namespace GA
open PySem PySem.Spec PyProof.Rows L2 GxR GenW
/-- the context of a generator expression's body -/
abbrev gblk (X : Cx) (s : Shared) (H : Hp) (cenv : Env) (fp : List Addr) (A : Around) (pn : List (Addr × Obj)) : Cx :=
  { X with s_0 := s, H_0 := H, env := cenv, outer := X.stack, stack := cenv :: X.stack, A := A, ex := fp, fn := fun _ => false, pn := pn, xe := fun _ _ => False }
abbrev genv (X : Cx) (scope : Scope) (C : Addr) (code : Value) : Env := genEnv scope (cloFrom X.env.cells scope.names []) C code builtinsNs X.env
section
variable {X : Cx} {pins : List (Addr × Obj)} {σ : L2.St} {H : Hp} {s : Shared}
theorem gen_start {scope : Scope} {own : List (Str × Nat)} {fp : List Addr} {A : Around} {code : Value} {a : Addr} {gobj : Obj} {h6 : Heap} {g6 : Array GenState} {t6 : Nat} {m0 : Str → Option Value} (I : Inv X pins σ H s) (ok : BlkOk X.N X.env.scope scope own) (hN : X.N.Nodup) (hcell : ∀ y ∈ scope.names, y.2 ≠ .cell)
    (hfp : ∀ b ∈ fp, FpOk X pins H b ∧ b < s.heap.objs.size) (hhd : A.handled = none) (hfr : A.frames = some (genv X scope s.heap.objs.size code :: X.stack)) (kp : ∀ b o, s.heap.get? b = some o → h6.get? b = some o) (hns : h6.Ns s.heap.objs.size m0) (ha : s.heap.objs.size < a) (hga : h6.get? a = some gobj)
    (hgd : ∀ v, gobj.data ≠ .cell v) (hg6 : AllBare g6) :
    Inv (gblk X s H (genv X scope s.heap.objs.size code) fp A [(a, gobj)]) [] (wipe σ (own.map (·.2))) H { s with heap := h6, gens := g6, toks := t6 } := by
  have hfree : ∀ y ∈ scope.names, y.2 = .free → ∃ c, X.env.cells.lookup y.1 = some c := fun y hy e => by
    rcases ok.free y hy e with k | k
    · exact I.ok.has _ (.inl k)
    · exact I.ok.has _ (.inr k)
  generalize hcenv : genv X scope s.heap.objs.size code = cenv at hfr ⊢
  have hL : cenv.locals = s.heap.objs.size := by rw [← hcenv]; rfl
  have hcl : cenv.cells = cloFrom X.env.cells scope.names [] := by rw [← hcenv]; rfl
  have hsc : cenv.scope = scope := by rw [← hcenv]; rfl
  have cm : ∀ {y c}, (y, c) ∈ cloFrom X.env.cells scope.names [] → X.env.cells.lookup y = some c ∧ c < s.heap.objs.size := fun {y c} hm => by
    rcases cloFrom_mem hm with hm | ⟨h1, rfl⟩
    · cases hm
    · obtain ⟨c, hc⟩ := hfree _ h1 rfl
      rw [hc]
      obtain ⟨w, z⟩ := I.cell _ _ hc
      exact ⟨rfl, z.lt⟩
  have mem : ∀ {y c}, cenv.cells.lookup y = some c → X.env.cells.lookup y = some c ∧ c < s.heap.objs.size := fun {y c} e => by
    rw [hcl] at e
    exact cm (PySem.mem_of_lookup e)
  have look : ∀ {y}, scope.names.lookup y = some .free → ∃ c, cenv.cells.lookup y = some c ∧ X.env.cells.lookup y = some c := fun {y} hl => by
    obtain ⟨c', e'⟩ := L2.mem_lookup (cloFrom_has (cells := X.env.cells) (acc := []) (PySem.mem_of_lookup hl))
    rw [← hcl] at e'
    exact ⟨c', e', (mem e').1⟩
  have vis : ∀ {y}, Vis cenv.scope y → scope.names.lookup y = some .local ∨ scope.names.lookup y = some .free := fun {y} h => by
    rw [hsc] at h
    rcases h with h | h | h
    · exact .inl h
    · exact absurd rfl (hcell _ (PySem.mem_of_lookup h))
    · exact .inr h
  have okB : (gblk X s H cenv fp A [(a, gobj)]).Ok := by
    refine ⟨I.ok.mod, by show cenv.scope.kind = _; rw [hsc]; exact ok.kind, by show cenv.globals = _; rw [← hcenv]; exact I.ok.glob, by show cenv.builtins = _; rw [← hcenv]; rfl, by show s.heap.objs.size ≤ cenv.locals; rw [hL]; exact Nat.le_refl _,
      fun y z c e1 e2 => I.ok.inj y z c (mem e1).1 (mem e2).1, fun y hy => ?_, fun y c z e => ?_, fun _ => hhd, hfr, .inr ⟨rfl, by show cenv.frame = some cenv.locals; rw [← hcenv]; rfl⟩, fun b hb => ⟨?_, fun y c e z => ?_⟩, I.bs, Nat.le_trans I.ok.bsz I.sz, fun b o e hb => ?_, fun b hb z => ?_, I.stack, I.stkFree⟩
    · show ∃ c, cenv.cells.lookup y = some c
      rcases hy with hy | hy
      · have hy : cenv.scope.names.lookup y = some .cell := hy
        rw [hsc] at hy
        exact absurd rfl (hcell _ (PySem.mem_of_lookup hy))
      · have hy : cenv.scope.names.lookup y = some .free := hy
        rw [hsc] at hy
        obtain ⟨c, h1, _⟩ := look hy
        exact ⟨c, h1⟩
    · cases z
    · show b ≠ cenv.locals
      rw [hL]; exact Nat.ne_of_lt (hfp b hb).2
    · exact (hfp b hb).1.2.2.2.2.1 y c (mem e).1 z
    · rcases (hfp b hb).1.2.2.2.1 with z | z
      · exact I.ok.noex b o e z
      · exact absurd (Nat.lt_of_lt_of_le (Heap.lt_size e) (Nat.le_trans I.ok.bsz z)) (Nat.lt_irrefl _)
    · rcases List.mem_cons.mp (I.stkSub b z) with z | z
      · exact (hfp b hb).1.2.1 z
      · exact (hfp b hb).1.2.2.1 z
  refine ⟨okB, rfl, hg6, Un.kept kp, ⟨m0, by show Heap.Ns _ cenv.locals _; rw [hL]; exact hns, fun i y av e1 e2 e3 => ?_⟩, fun y c e => ?_, ?_, fun y c e => I.freeC y c (mem e).1, fun p hp => ?_, I.hok.kept kp, by rw [wipe_length]; exact I.len⟩
  · obtain ⟨e2, hne⟩ := wipe_some e2
    have hfr : scope.names.lookup y = some .free := by
      rcases vis e3 with e | e
      · rcases ok.own _ (PySem.mem_of_lookup e) (.inl rfl) with e' | e'
        · obtain ⟨p, hp, hpy⟩ := List.mem_map.mp e'
          have e3 := ok.ix p hp
          have : p.1 = y := hpy
          rw [this] at e3
          exact absurd (List.mem_map.mpr ⟨p, hp, nodup_ix hN e3 e1⟩) hne
        · exact absurd (List.mem_of_getElem? e1) e'
      · exact e
    obtain ⟨m, hn, hl⟩ := I.loc
    have hvis : Vis X.env.scope y := (ok.free _ (PySem.mem_of_lookup hfr) rfl).elim (fun k => .inr (.inl k)) (fun k => .inr (.inr k))
    obtain ⟨w, r, q⟩ := hl i y av e1 e2 hvis
    refine ⟨w, r, .inr ⟨.inr (by show cenv.scope.names.lookup y = _; rw [hsc]; exact hfr), ?_⟩⟩
    obtain ⟨c, h1, h2⟩ := look hfr
    rcases q with ⟨k, _⟩ | ⟨_, c', e', z⟩
    · have k : X.env.scope.names.lookup y = some .local := k
      rcases ok.free _ (PySem.mem_of_lookup hfr) rfl with k' | k' <;> rw [show X.env.scope.names.lookup y = _ from k'] at k <;> cases k
    · rw [h2] at e'; cases e'
      exact ⟨c, h1, z.keeps kp⟩
  · obtain ⟨w, z⟩ := I.cell y c (mem e).1
    exact ⟨w, z.keeps kp⟩
  · show H cenv.locals = none
    rw [hL]; exact I.hok.fresh (Nat.le_refl _)
  · have hp : p = (a, gobj) := by simpa using hp
    subst hp
    refine ⟨hga, I.hok.fresh (Nat.le_of_lt ha), by show a ≠ cenv.locals; rw [hL]; exact Nat.ne_of_gt ha, fun hb => ?_, hgd⟩
    have hb : a ∈ frs X.stack := hb
    rcases List.mem_cons.mp (I.stkSub a hb) with z | z
    · have := I.lt; rw [← z] at this; exact absurd (Nat.lt_trans this ha) (Nat.lt_irrefl _)
    · exact I.nofs (Nat.le_of_lt ha) z
/-- the generators have changed -/
theorem inv_gens {s' : Shared} (I : Inv X pins σ H s) (hh : s'.heap = s.heap) (ho : s'.os = s.os) (hb : AllBare s'.gens) : Inv X pins σ H s' :=
  ⟨I.ok, ho.trans I.os, hb, hh ▸ I.base, hh ▸ I.loc, hh ▸ I.cell, I.free, I.freeC, hh ▸ I.pin, hh ▸ I.hok, I.len⟩
end
theorem over_comp {A : Around} {elt tg iter : Expr} {scope : Scope} {pos : Pos} {it acc : Value} {cenv : Env} : A.over (.compLoop (.GeneratorExp elt [⟨tg, iter, [], 0⟩] scope pos) 0 it acc cenv) [] = A.deeper cenv := by
  first
    | rfl
    | (obtain ⟨hd, d, fr, gs, u⟩ := A; simp [Around.over, Around.deeper, marksOver, frameCount, unitsOf, envsOf, guardsOf, pushEnvs, pushGuards, Code.envs, Code.env?, Code.isFrame, Code.guards, Code.isGuard, Code.weight, Code.frames, Code.isCreation, Code.isCaller, Code.cUnits])
end GA

namespace GA
open PySem PySem.Spec PyProof.Rows L2 GxR GenW
/-- an item has come: it ends the walk, or the walk goes on -/
def Yp (Xg : Cx) (e : Bool) (Q : VK) : Protocol := fun _ _ v s1 kap => ∃ (b : Bool) (σ' : L2.St) (H' : Hp), v = .bool b ∧ L2.Inv Xg [] σ' H' s1 ∧ (b = e → Q (.bl e) H') ∧ (b ≠ e → ∀ s', s'.heap = s1.heap → s'.os = s1.os → AllBare s'.gens → kap (.send .none) s')
def Fp (Xg : Cx) (e : Bool) (Q : VK) : Nat → Shared → Shared → Prop := fun _ _ s1 => ∃ (σ' : L2.St) (H' : Hp), L2.Inv Xg [] σ' H' s1 ∧ Q (.bl (!e)) H'
def Rp (Xg : Cx) (e : Bool) (Q : VK) : GenEnd := fun n s₀ r s1 => ((r = .ok (.ret .none) ∨ r = .ok .next) ∧ Fp Xg e Q n s₀ s1) ∨ ∃ x, r = .error x ∧ (fun (_ : Value) (_ : Shared) => False) x s1
/-- what a turn must do -/
def Turns (J : It) (g : TG) (te : TE) (vs : List Nat) (σ : L2.St) (e : Bool) (Q : VK) (n : Nat) (W : Nat → Hp → Prop) : Prop :=
  ∀ i H, W i H → (i = n ∧ J.stop i H ∧ Q (.bl (!e)) H) ∨ (i < n ∧ J.go i H ∧ ∀ x H', J.yld i H x H' → g x (wipe σ vs) H' fun σ2 H2 => wipe σ2 vs = wipe σ vs ∧ te σ2 H2 fun y H3 => ∃ b, y = .bl b ∧ ((b = e ∧ Q (.bl e) H3) ∨ (b ≠ e ∧ W (i + 1) H3)))
theorem seg_loop {X : Cx} {s4 : Shared} {H4 : Hp} {cenv : Env} {fp : List Addr} {Aq : Around} {it : Addr} {pn : List (Addr × Obj)} {elt tg iter : Expr} {scope : Scope} {pos : Pos} {J : It} {tn : Nat → Heap → Prop} {g : TG} {te : TE} {vs : List Nat} {σ : L2.St} {e : Bool} {Q : VK} {n : Nat} {W : Nat → Hp → Prop}
    (hc : X.calm = true) (hco : cenv.scope.isCoroutine = false) (hpn : ∀ b ∈ fp, ∀ p ∈ pn, p.1 ≠ b) (T : Turn X.prog X.w X.K tg J fp it tn)
    (pg : PG (gblk X s4 H4 cenv fp (Aq.over (.compLoop (.GeneratorExp elt [⟨tg, iter, [], 0⟩] scope pos) 0 (.ref it) .none cenv) []) pn) tg g)
    (pe : PE (gblk X s4 H4 cenv fp (Aq.over (.compLoop (.GeneratorExp elt [⟨tg, iter, [], 0⟩] scope pos) 0 (.ref it) .none cenv) []) pn) elt te)
    (turn : Turns J g te vs σ e Q n W) :
    ∀ (k i : Nat) (s₀ s : Shared) (H : Hp), n - i = k → L2.Inv (gblk X s4 H4 cenv fp (Aq.over (.compLoop (.GeneratorExp elt [⟨tg, iter, [], 0⟩] scope pos) 0 (.ref it) .none cenv) []) pn) [] (wipe σ vs) H s → tn i s.heap → (∀ b ∈ fp, H b = none) → W i H →
      Seg (model X.prog X.w) Aq (Rp (gblk X s4 H4 cenv fp (Aq.over (.compLoop (.GeneratorExp elt [⟨tg, iter, [], 0⟩] scope pos) 0 (.ref it) .none cenv) []) pn) e Q) (Yp (gblk X s4 H4 cenv fp (Aq.over (.compLoop (.GeneratorExp elt [⟨tg, iter, [], 0⟩] scope pos) 0 (.ref it) .none cenv) []) pn) e Q) k s₀
        (.compLoop (.GeneratorExp elt [⟨tg, iter, [], 0⟩] scope pos) 0 (.ref it) .none cenv) ((model X.prog X.w).den (.compLoop (.GeneratorExp elt [⟨tg, iter, [], 0⟩] scope pos) 0 (.ref it) .none cenv)) [] s := by
  generalize hXg : gblk X s4 H4 cenv fp (Aq.over (.compLoop (.GeneratorExp elt [⟨tg, iter, [], 0⟩] scope pos) 0 (.ref it) .none cenv) []) pn = Xg at pg pe ⊢
  have hA : Xg.A = Aq.over (.compLoop (.GeneratorExp elt [⟨tg, iter, [], 0⟩] scope pos) 0 (.ref it) .none cenv) [] := by rw [← hXg]
  have hP : Xg.prog = X.prog := by rw [← hXg]
  have hW : Xg.w = X.w := by rw [← hXg]
  have hK : Xg.K = X.K := by rw [← hXg]
  have hC : Xg.calm = true := by rw [← hXg]; exact hc
  have hE : Xg.env = cenv := by rw [← hXg]
  have hxe : Xg.xe = fun _ _ => False := by rw [← hXg]
  have stat : ∀ {σ' : L2.St} {H' : Hp} {s' : Shared}, L2.Inv Xg [] σ' H' s' → (∀ b ∈ fp, H' b = none) → ∀ b ∈ fp, FpOk Xg [] H' b := fun {σ' H' s'} I' hn b hb => by
    subst hXg
    exact ⟨hn b hb, (I'.ok.exf b hb).1, I'.ok.exfs b hb, .inl hb, fun x c e => (I'.ok.exf b hb).2 x c e, fun p hp => by
      rcases List.mem_append.mp hp with z | z
      · exact hpn b hb p z
      · cases z⟩
  intro k
  induction k with
  | zero =>
    intro i s₀ s H hk I st hn w
    rcases turn i H w with ⟨hi, stop, q⟩ | ⟨hi, _⟩
    · show Seg _ Aq _ _ _ s₀ _ ((compTurn (.GeneratorExp elt [⟨tg, iter, [], 0⟩] scope pos) 0 (.ref it) .none cenv).onRaise (leaving cenv)) [] s
      rw [compTurn_gen, Sem.onRaise_eq_wrap]
      refine seg_bind_wrap (wpAny_standAt ?_)
      have td := T.done Xg hP hW hK hC i [] s _ H (fun _ _ => False) I (stat I hn) st stop
      rw [hA] at td
      refine seg_bind_wrap (thnF td fun r s1 ⟨hr, I1⟩ => ?_)
      subst hr
      exact seg_end (.ok .next) (.inl ⟨.inr rfl, _, H, I1, q⟩)
    · omega
  | succ k ih =>
    intro i s₀ s H hk I st hn w
    rcases turn i H w with ⟨hi, _⟩ | ⟨hi, go, step⟩
    · omega
    · show Seg _ Aq _ _ _ s₀ _ ((compTurn (.GeneratorExp elt [⟨tg, iter, [], 0⟩] scope pos) 0 (.ref it) .none cenv).onRaise (leaving cenv)) [] s
      rw [compTurn_gen, Sem.onRaise_eq_wrap]
      refine seg_bind_wrap (wpAny_standAt ?_)
      have ti := T.item Xg hP hW hK hC i [] s _ H (fun _ _ => False) I (stat I hn) st go
      rw [hA] at ti
      refine seg_bind_wrap (thnF ti fun r s6 ⟨u, hr, h6⟩ => ?_)
      subst hr
      refine seg_bind_wrap (thnF h6 fun _ s7 ⟨x, H7, I7, r7, y7, st7, n7⟩ => ?_)
      have I7' := I7.pinned (stat I7 n7) (T.obj _ _ st7)
      have pgr := pg.run _ s7 _ H7 x u _ I7' r7 (step x H7 y7)
      rw [hxe, hA, hP, hW, hE] at pgr
      refine seg_bind_wrap (thnF pgr fun _ s8 ⟨σ8, H8, I8, hw8, q8⟩ => ?_)
      refine seg_bind_wrap (wpAny_tests_nil ?_)
      simp only [if_true]
      have hy : ∀ v, yieldOut cenv v = yieldValue v := fun v => by simp only [yieldOut, hco, Bool.false_eq_true, if_false]
      simp only [hy]
      rw [Sem.bind_eq_wrap', Sem.bind_eq_wrap', Sem.wrap_wrap, Sem.wrap_wrap]
      have per := pe.run _ s8 σ8 H8 _ I8 q8
      rw [hxe, hA, hP, hW, hE] at per
      refine seg_wrap (thnF per fun v s10 ⟨yv, H10, I10, r10, b, hyb, nx⟩ => ?_)
      subst hyb
      obtain rfl : v = Value.bool b := r10
      have pin' : ∀ b ∈ fp, ∀ o, s7.heap.get? b = some o → s10.heap.get? b = some o ∧ H10 b = none := fun b hb o e =>
        let z := I10.pin (b, o) (List.mem_append_right _ (List.mem_append_right _ (mem_pinsAt hb e)))
        ⟨z.1, z.2.1⟩
      have hl : (wipe σ vs).length = σ8.length := by rw [← hw8, wipe_length]
      have I11 : L2.Inv Xg [] (wipe σ vs) H10 s10 := (I10.unpinned (pins := [])).weak hl fun j v e => by
        rw [← hw8] at e
        exact (wipe_some e).1
      refine seg_at (seg_yield rfl rfl rfl ⟨b, _, H10, rfl, I11, fun hb => ?_, fun hb s' hs' ho' hg' => ?_⟩)
      · rcases nx with ⟨_, q⟩ | ⟨hne, _⟩
        · exact q
        · exact absurd hb hne
      · rcases nx with ⟨he, _⟩ | ⟨_, w'⟩
        · exact absurd he hb
        · refine seg_again rfl (ih (i + 1) s' s' H10 (by omega) (inv_gens I11 hs' ho' hg') (by rw [hs']; exact T.keep _ _ _ st7 fun b hb o e => (pin' b hb o e).1) (fun b hb => ?_) w')
          obtain ⟨o, e, _⟩ := T.obj _ _ st7 b hb
          exact (pin' b hb o e).2
end GA

namespace GA
open PySem PySem.Spec PyProof.Rows L2 GxR GenW
theorem seg_start {P : Program} {w : World} {K : PySem.W.Frag} {A : Around} {fp : List Addr} {it : Addr} {elt tg iter : Expr} {scope : Scope} {pos : Pos} {J : It} {tn : Nat → Heap → Prop} {cenv : Env} {R : GenEnd} {Y : Protocol} {n : Nat} {s₀ s : Shared} (T : Turn P w K tg J fp it tn) (st : tn 0 s.heap)
    (loop : Seg (model P w) A R Y n s₀ (.compLoop (.GeneratorExp elt [⟨tg, iter, [], 0⟩] scope pos) 0 (.ref it) .none cenv) ((model P w).den (.compLoop (.GeneratorExp elt [⟨tg, iter, [], 0⟩] scope pos) 0 (.ref it) .none cenv)) [] s) :
    Seg (model P w) A R Y n s₀ (.compStart (.GeneratorExp elt [⟨tg, iter, [], 0⟩] scope pos) 0 (.ref it) .none cenv) ((model P w).den (.compStart (.GeneratorExp elt [⟨tg, iter, [], 0⟩] scope pos) 0 (.ref it) .none cenv)) [] s := by
  show Seg _ A _ _ _ s₀ _ ((compStart (.GeneratorExp elt [⟨tg, iter, [], 0⟩] scope pos) 0 (.ref it) .none cenv).onRaise (leaving cenv)) [] s
  unfold compStart
  rw [Sem.onRaise_eq_wrap]
  show Seg _ A _ _ _ s₀ _ ((ask >>= _).wrap _ _ _ _) [] s
  refine seg_bind_wrap (wpAny_askSetting ?_)
  split
  · exact seg_again rfl loop
  · first
      | exact seg_bind_wrap (wpAny_rule (seg_bind_wrap (wpAny_standAt (seg_bind_wrap (T.self _ 0 s _ _ st (seg_again rfl loop))))))
      | (refine seg_bind_wrap (wpAny_rule ?_); show Seg _ A _ _ _ s₀ _ ((standAt iter.pos >>= _).wrap _ _ _ _) [] s; exact seg_bind_wrap (wpAny_standAt (seg_bind_wrap (T.self _ 0 s _ _ st (seg_again rfl loop)))))
/-- the walk of all -/
theorem all_loop {P : Program} {w : World} {A : Around} {Xg : Cx} {Q : VK} {a : Addr} {g : Nat} {R : Result → Shared → Prop} (hh : A.handled = none) (hd : A.depth < recursionLimit) (isg : ∀ {σ' H' s'}, L2.Inv Xg [] σ' H' s' → s'.heap.IsGen a g)
    (hR : ∀ b (σ' : L2.St) H' s', L2.Inv Xg [] σ' H' s' → Q (.bl b) H' → R (.ok (.ret (.bool b))) s') :
    ∀ (m : Nat) (s : Shared) (σ' : L2.St) (H' : Hp), L2.Inv Xg [] σ' H' s → (∃ gs, s.gens[g]? = some gs ∧ gs.Goes (model P w) A.in1.in1 (Rp Xg false Q) (Yp Xg false Q) m (.send .none) (s.setGen g .running)) →
      codeAny (model P w) A (.builtin "all.loop" ⟨[.ref a], []⟩) R s := by
  intro m
  induction m with
  | zero =>
    intro s σ' H' I ⟨gs, hgs, hgo⟩
    refine codeAny_builtin F.entry_all_loop ?_
    rw [Around.under_plainId F.plain_all_loop _]
    show wpAny _ A.in1 (pyNext (.ref a) >>= _) _ _ s
    refine wpAny_bind (next_genG (A := A.in1) hh I.nolimit hd (isg I) hgs hgo (fun v s₁ gs' hbare hv => ?_) (fun s₁ hp h' hk => ?_) fun e s₁ he => he.elim)
    · obtain ⟨b, σ1, H1, rfl, I1, h1, h2⟩ := hv
      refine wpAny_bind (wpAny_holding (wpAny_truthy_bool ?_))
      refine wpAny_bind (wpAny_letGo ?_)
      cases b with
      | true => exact False.elim (h2 (by decide) s₁ rfl rfl I1.bare)
      | false =>
        simp only [Bool.false_eq_true, if_false]
        refine wpAny_bind (wpAny_rule (wpAny_pure ?_))
        exact hR false σ1 H1 _ (inv_gens I1 rfl rfl (allBare_setGen I1.bare hbare)) (h1 rfl)
    · obtain ⟨σ1, H1, I1, q⟩ := hp
      refine wpAny_bind (wpAny_rule (wpAny_pure ?_))
      have I2 := inv_gens (s' := s₁.setGen g .finished) I1 rfl rfl (allBare_setGen I1.bare rfl)
      exact hR true σ1 H1 _ (I2.kept (t' := (s₁.setGen g .finished).toks) hk) q
  | succ m ih =>
    intro s σ' H' I ⟨gs, hgs, hgo⟩
    have hgl : g < s.gens.size := (Array.getElem?_eq_some_iff.mp hgs).1
    refine codeAny_builtin F.entry_all_loop ?_
    rw [Around.under_plainId F.plain_all_loop _]
    show wpAny _ A.in1 (pyNext (.ref a) >>= _) _ _ s
    refine wpAny_bind (wpAny_gsz (n := g + 1) hgl (next_genG (A := A.in1) hh I.nolimit hd (isg I) hgs hgo (fun v s₁ gs' hbare hv => ?_) (fun s₁ hp h' hk => ?_) fun e s₁ he => he.elim))
    · intro hsz
      obtain ⟨b, σ1, H1, rfl, I1, h1, h2⟩ := hv
      refine wpAny_bind (wpAny_holding (wpAny_truthy_bool ?_))
      refine wpAny_bind (wpAny_letGo ?_)
      have I2 := inv_gens (s' := s₁.setGen g gs') I1 rfl rfl (allBare_setGen I1.bare hbare)
      cases b with
      | true =>
        simp only [if_true]
        have hsz1 : g < s₁.gens.size := by
          have q : (s₁.setGen g gs').gens.size = s₁.gens.size := setGen_size _ _ _
          have hsz' : g + 1 ≤ (s₁.setGen g gs').gens.size := hsz
          omega
        refine wpAny_pure ⟨plainId_quiet F.plain_all_loop _, ih (s₁.setGen g gs') σ1 H1 I2 ⟨gs', setGen_at hsz1, ?_⟩⟩
        exact h2 (by decide) _ rfl rfl (allBare_setGen I2.bare rfl)
      | false =>
        simp only [Bool.false_eq_true, if_false]
        refine wpAny_bind (wpAny_rule (wpAny_pure ?_))
        exact hR false σ1 H1 _ I2 (h1 rfl)
    · intro _
      obtain ⟨σ1, H1, I1, q⟩ := hp
      refine wpAny_bind (wpAny_rule (wpAny_pure ?_))
      have I2 := inv_gens (s' := s₁.setGen g .finished) I1 rfl rfl (allBare_setGen I1.bare rfl)
      exact hR true σ1 H1 _ (I2.kept (t' := (s₁.setGen g .finished).toks) hk) q
/-- the walk of any -/
theorem any_loop {P : Program} {w : World} {A : Around} {Xg : Cx} {Q : VK} {a : Addr} {g : Nat} {R : Result → Shared → Prop} (hh : A.handled = none) (hd : A.depth < recursionLimit) (isg : ∀ {σ' H' s'}, L2.Inv Xg [] σ' H' s' → s'.heap.IsGen a g)
    (hR : ∀ b (σ' : L2.St) H' s', L2.Inv Xg [] σ' H' s' → Q (.bl b) H' → R (.ok (.ret (.bool b))) s') :
    ∀ (m : Nat) (s : Shared) (σ' : L2.St) (H' : Hp), L2.Inv Xg [] σ' H' s → (∃ gs, s.gens[g]? = some gs ∧ gs.Goes (model P w) A.in1.in1 (Rp Xg true Q) (Yp Xg true Q) m (.send .none) (s.setGen g .running)) →
      codeAny (model P w) A (.builtin "any.loop" ⟨[.ref a], []⟩) R s := by
  intro m
  induction m with
  | zero =>
    intro s σ' H' I ⟨gs, hgs, hgo⟩
    refine codeAny_builtin F.entry_any_loop ?_
    rw [Around.under_plainId F.plain_any_loop _]
    show wpAny _ A.in1 (pyNext (.ref a) >>= _) _ _ s
    refine wpAny_bind (next_genG (A := A.in1) hh I.nolimit hd (isg I) hgs hgo (fun v s₁ gs' hbare hv => ?_) (fun s₁ hp h' hk => ?_) fun e s₁ he => he.elim)
    · obtain ⟨b, σ1, H1, rfl, I1, h1, h2⟩ := hv
      refine wpAny_bind (wpAny_holding (wpAny_truthy_bool ?_))
      refine wpAny_bind (wpAny_letGo ?_)
      cases b with
      | false => exact False.elim (h2 (by decide) s₁ rfl rfl I1.bare)
      | true =>
        simp only [if_true]
        refine wpAny_bind (wpAny_rule (wpAny_pure ?_))
        exact hR true σ1 H1 _ (inv_gens I1 rfl rfl (allBare_setGen I1.bare hbare)) (h1 rfl)
    · obtain ⟨σ1, H1, I1, q⟩ := hp
      refine wpAny_bind (wpAny_rule (wpAny_pure ?_))
      have I2 := inv_gens (s' := s₁.setGen g .finished) I1 rfl rfl (allBare_setGen I1.bare rfl)
      exact hR false σ1 H1 _ (I2.kept (t' := (s₁.setGen g .finished).toks) hk) q
  | succ m ih =>
    intro s σ' H' I ⟨gs, hgs, hgo⟩
    have hgl : g < s.gens.size := (Array.getElem?_eq_some_iff.mp hgs).1
    refine codeAny_builtin F.entry_any_loop ?_
    rw [Around.under_plainId F.plain_any_loop _]
    show wpAny _ A.in1 (pyNext (.ref a) >>= _) _ _ s
    refine wpAny_bind (wpAny_gsz (n := g + 1) hgl (next_genG (A := A.in1) hh I.nolimit hd (isg I) hgs hgo (fun v s₁ gs' hbare hv => ?_) (fun s₁ hp h' hk => ?_) fun e s₁ he => he.elim))
    · intro hsz
      obtain ⟨b, σ1, H1, rfl, I1, h1, h2⟩ := hv
      refine wpAny_bind (wpAny_holding (wpAny_truthy_bool ?_))
      refine wpAny_bind (wpAny_letGo ?_)
      have I2 := inv_gens (s' := s₁.setGen g gs') I1 rfl rfl (allBare_setGen I1.bare hbare)
      cases b with
      | false =>
        simp only [Bool.false_eq_true, if_false]
        have hsz1 : g < s₁.gens.size := by
          have q : (s₁.setGen g gs').gens.size = s₁.gens.size := setGen_size _ _ _
          have hsz' : g + 1 ≤ (s₁.setGen g gs').gens.size := hsz
          omega
        refine wpAny_pure ⟨plainId_quiet F.plain_any_loop _, ih (s₁.setGen g gs') σ1 H1 I2 ⟨gs', setGen_at hsz1, ?_⟩⟩
        exact h2 (by decide) _ rfl rfl (allBare_setGen I2.bare rfl)
      | true =>
        simp only [if_true]
        refine wpAny_bind (wpAny_rule (wpAny_pure ?_))
        exact hR true σ1 H1 _ I2 (h1 rfl)
    · intro _
      obtain ⟨σ1, H1, I1, q⟩ := hp
      refine wpAny_bind (wpAny_rule (wpAny_pure ?_))
      have I2 := inv_gens (s' := s₁.setGen g .finished) I1 rfl rfl (allBare_setGen I1.bare rfl)
      exact hR false σ1 H1 _ (I2.kept (t' := (s₁.setGen g .finished).toks) hk) q
end GA

namespace GA
open PySem PySem.Spec PyProof.Rows L2 GxR GenW
/-- all(elt for tg in iter) (e: False ends it), any (e: True ends it); P: the def's table of code objects, which may grow -/
def tQuant (P : Addr) (e : Bool) (wi : TI) (g : TG) (te : TE) (vs : List Nat) : TE := fun σ H Q => wi σ H fun J H1 => TabG H1 P ∧ ∀ H2, Tabbed P H1 H2 → ∃ (n : Nat) (W : Nat → Hp → Prop), W 0 H2 ∧ Turns J g te vs σ e Q n W
/-- a generator, ready to be walked -/
def Made (X : Cx) (pins : List (Addr × Obj)) (σ : L2.St) (e : Bool) (Q : VK) (u : Value) (s6 : Shared) : Prop :=
  ∃ (a : Addr) (g n : Nat) (Xg : Cx) (σ' : L2.St) (H' : Hp), u = .ref a ∧ (∀ {σ' H' s'}, L2.Inv Xg [] σ' H' s' → s'.heap.IsGen a g) ∧ L2.Inv Xg [] σ' H' s6 ∧
    (∃ gs, s6.gens[g]? = some gs ∧ gs.Goes (model X.prog X.w) X.A.in1.in1 (Rp Xg e Q) (Yp Xg e Q) n (.send .none) (s6.setGen g .running)) ∧ ∀ (σ' : L2.St) H' s', L2.Inv Xg [] σ' H' s' → L2.Inv X pins σ H' s'
section
variable {X : Cx} {pins : List (Addr × Obj)} {σ : L2.St} {H : Hp} {s : Shared}
theorem gen_make {c P : Addr} {elt iter tg : Expr} {gpos : Pos} {scope : Scope} {own : List (Str × Nat)} {wi : TI} {g : TG} {te : TE} {k : Nat} {e : Bool} {Q : VK} (hr : Room (k + 1) X.A) (hc : X.calm = true) (hN : X.N.Nodup) (TB : TabB X.base X.mg c P) (hcode : X.env.code = .ref c) (ok : BlkOk X.N X.env.scope scope own)
    (hco : scope.isCoroutine = false) (hcell : ∀ y ∈ scope.names, y.2 ≠ .cell) (h0 : scope.names.lookup (".0" : Str) = some NameKind.local) (hi : PI X tg iter wi)
    (pg : ∀ (s : Shared) (H : Hp) (C : Addr) (code : Value) (fp : List Addr) (A : Around) (pn : List (Addr × Obj)), PG (gblk X s H (genv X scope C code) fp A pn) tg g)
    (pe : ∀ (s : Shared) (H : Hp) (C : Addr) (code : Value) (fp : List Addr) (A : Around) (pn : List (Addr × Obj)), Room k A → PE (gblk X s H (genv X scope C code) fp A pn) elt te)
    (hs : ∀ v, genFold iter X.env v = pure v) (I : L2.Inv X pins σ H s) (h : tQuant P e wi g te (own.map (·.2)) σ H Q) :
    wpAny (model X.prog X.w) X.A (eval (.GeneratorExp elt [⟨tg, iter, [], 0⟩] scope gpos) X.env) (Made X pins σ e Q) X.xe s := by
  have hfree : ∀ y ∈ scope.names, y.2 = .free → ∃ c, X.env.cells.lookup y.1 = some c := fun y hy e => by
    rcases ok.free y hy e with k | k
    · exact I.ok.has _ (.inl k)
    · exact I.ok.has _ (.inr k)
  refine wpAny_GeneratorExp_make hco (closure_ok hfree) hcell h0 ok.kind (by have := hr.dp; omega) ?_ hs
  refine thn (hi.run pins s σ H _ I h) fun xv s1 hx => thn hx fun itv s2 h2 => ?_
  obtain ⟨it, fp, tn, J, H2, rfl, I2, T, st2, f2, ⟨ps, hP, ht⟩, q⟩ := h2
  have hPs : s2.heap.get? P = some { cls := .none, data := .fields ps } := I2.hok P _ hP
  have hPlt : P < s2.heap.objs.size := Heap.lt_size hPs
  have cd : PySem.W.CodeHd s2.heap c P := TB.code.keeps fun b u e => I2.bk b u e
  refine ⟨I2.nolimit, ?_⟩
  have cont : ∀ (code : Value) (h3 : Heap) (tk : Nat) (ps' : Array Value), Heap.ExtBut P s2.heap h3 → s2.heap.objs.size ≤ h3.objs.size → h3.get? P = some { cls := .none, data := .fields ps' } → (∃ more, ps' = ps ++ more) → TriplesOk ps'.toList →
      wpAny (model X.prog X.w) X.A (builtinsFor X.env.globals X.env.builtins) (fun bi s₄ =>
        ∀ h', h'.Ns s₄.heap.objs.size (fun y => if y = ".0" then some (.ref it) else none) → Heap.SameBut s₄.heap.objs.size (s₄.heap.push { cls := .type "frame", data := .dict #[] }) h' →
          Made X pins σ e Q (.ref h'.objs.size) { s₄ with
            gens := s₄.gens.push (.fresh (.compStart (.GeneratorExp elt [⟨tg, iter, [], 0⟩] scope gpos) 0 (.ref it) .none (genEnv scope (cloFrom X.env.cells scope.names []) s₄.heap.objs.size code bi X.env))),
            toks := s₄.toks + 1 + 1 + 1,
            heap := h'.push { cls := .type "generator", data := .fields #[.int s₄.gens.size 0, .str "<genexpr>" (s₄.toks + 1), .str (X.env.qual ++ "<genexpr>") (s₄.toks + 1 + 1)] } }) X.xe { s2 with heap := h3, toks := tk } := by
    intro code h3 tk ps' hx hsz hP3 hmore ht3
    obtain ⟨bm, ob, e1, e2, e3, e4, e5, e6, e7, e8⟩ := TB.bm
    have keep3 : ∀ b u, b ≠ P → s2.heap.get? b = some u → h3.get? b = some u := fun b u hb e => hx b u hb e
    refine wpAny_builtinsFor (m := X.mg) (by rw [I2.ok.glob]; exact (I2.mod.glob.keeps I2.bk).extBut hx TB.gP) e1 e2 (keep3 _ _ e4 (I2.bk _ _ e5)) e6 e7 e8 ?_
    intro h' hn' hs'
    obtain ⟨more, em⟩ := hmore
    subst em
    have I4 := inv_tab (more := more) (h' := h3) (g' := s2.gens) (d' := s2.drawn) (t' := tk) I2 hP keep3 hP3 I2.bare
    generalize hs4 : ({ s2 with heap := h3, gens := s2.gens, drawn := s2.drawn, toks := tk } : Shared) = s4 at I4
    generalize hH4 : upd H2 P (.tbl (ps ++ more)) = H4 at I4
    have tab : Tabbed P H2 H4 := by rw [← hH4]; exact ⟨⟨ps ++ more, upd_same, ht3⟩, fun b hb => upd_ne hb⟩
    obtain ⟨n, W, w0, turn⟩ := q H4 tab
    have e4h : s4.heap = h3 := by rw [← hs4]
    have e4g : s4.gens = s2.gens := by rw [← hs4]
    have nP : ∀ b ∈ fp, b ≠ P := fun b hb z => by have := (f2 b hb).1; rw [z, hP] at this; cases this
    have szf : ∀ b ∈ fp, b < s2.heap.objs.size := fun b hb => by
      obtain ⟨o, e, _⟩ := T.obj _ _ st2 b hb
      exact Heap.lt_size e
    have f4 : ∀ b ∈ fp, FpOk X pins H4 b ∧ b < s4.heap.objs.size := fun b hb => by
      refine ⟨⟨?_, (f2 b hb).2⟩, by rw [e4h]; exact Nat.lt_of_lt_of_le (szf b hb) hsz⟩
      rw [tab.2 b (nP b hb)]; exact (f2 b hb).1
    have hsz' : h'.objs.size = h3.objs.size + 1 := by rw [hs'.1, Heap.size_push]
    have keep' : ∀ b o, h3.get? b = some o → h'.get? b = some o := fun b o e => hs'.extBut b o (Nat.ne_of_lt (Heap.lt_size e)) (Heap.get?_push_of_some _ e)
    generalize hgo : ({ cls := .type "generator", data := .fields #[.int s4.gens.size 0, .str "<genexpr>" (s4.toks + 1), .str (X.env.qual ++ "<genexpr>") (s4.toks + 1 + 1)] } : Obj) = gobj
    have I6 := gen_start (a := h'.objs.size) (gobj := gobj) (code := code) (h6 := h'.push gobj) (g6 := s4.gens.push (.fresh (.compStart (.GeneratorExp elt [⟨tg, iter, [], 0⟩] scope gpos) 0 (.ref it) .none (genv X scope s4.heap.objs.size code)))) (t6 := s4.toks + 1 + 1 + 1)
      (A := X.A.in1.in1.over (.compLoop (.GeneratorExp elt [⟨tg, iter, [], 0⟩] scope gpos) 0 (.ref it) .none (genv X scope s4.heap.objs.size code)) []) I4 ok hN hcell f4 (by rw [over_comp]; exact hr.hd)
      (by rw [over_comp]; exact Around.frames_deeper I4.ok.frames) (fun b o e => Heap.get?_push_of_some _ (keep' b o (by rw [← e4h]; exact e))) (by rw [e4h]; exact hn'.push _) (by rw [e4h, hsz']; exact Nat.lt_succ_self _) (Heap.get?_push_size _ (by rw [← hgo]; rfl)) (fun v q => by rw [← hgo] at q; cases q) (I4.bare.push rfl)
    have rm : Room k (X.A.in1.in1.over (.compLoop (.GeneratorExp elt [⟨tg, iter, [], 0⟩] scope gpos) 0 (.ref it) .none (genv X scope s4.heap.objs.size code)) []) := by
      rw [over_comp]
      exact ⟨hr.hd, by have := hr.dp; show X.A.depth + 1 + 3 * k + 5 < _; omega, by have := hr.un; show X.A.units + 1 + 1 + 3 + 16 * k + 200 < _; omega⟩
    have nfp : ∀ b ∈ fp, H4 b = none := fun b hb => (f4 b hb).1.1
    have st6 : tn 0 (h'.push gobj) := T.keep _ _ _ st2 fun b hb o e => Heap.get?_push_of_some _ (keep' b o (keep3 b o (nP b hb) e))
    have gst : ∀ (z : GenState), z.bare = true → AllBare (({ s4 with heap := h'.push gobj, gens := s4.gens.push (.fresh (.compStart (.GeneratorExp elt [⟨tg, iter, [], 0⟩] scope gpos) 0 (.ref it) .none (genv X scope s4.heap.objs.size code))), toks := s4.toks + 1 + 1 + 1 } : Shared).setGen s4.gens.size z).gens := fun z hz => allBare_setGen (I4.bare.push rfl) hz
    refine ⟨h'.objs.size, s4.gens.size, n, _, _, H4, rfl, fun {σ' H' s'} J' => ?_, I6, ⟨_, Array.getElem?_push_size .., rfl, seg_start T st6 (seg_loop hc hco (fun b hb p hp => ?_) T (pg _ _ _ _ _ _ _) (pe _ _ _ _ _ _ _ rm) turn n 0 _ _ H4 (Nat.sub_zero _) (inv_gens I6 rfl rfl (gst _ rfl)) st6 nfp w0)⟩, fun σ' H' s' J' => ?_⟩
    · have := (J'.pin (h'.objs.size, gobj) (List.mem_append_left _ (List.mem_singleton.mpr rfl))).1
      rw [← hgo] at this
      exact ⟨_, _, _, this, rfl, rfl, rfl⟩
    · have hp : p = (h'.objs.size, gobj) := by simpa using hp
      subst hp
      have h1 : b < s2.heap.objs.size := szf b hb
      have h2 : s2.heap.objs.size ≤ h3.objs.size := hsz
      have h3' : h'.objs.size = h3.objs.size + 1 := hsz'
      show h'.objs.size ≠ b
      exact Nat.ne_of_gt (by rw [h3']; exact Nat.lt_of_lt_of_le h1 (Nat.le_succ_of_le h2))
    · exact I4.call' (ch := fp) J'.os J'.base J'.hok J'.bare fun b hb => ⟨(f4 b hb).1.2.2.2.1, (f4 b hb).1.2.1, (f4 b hb).1.2.2.2.2.1, (f4 b hb).1.2.2.2.2.2⟩
  cases hf : codeAmong gpos ps.toList with
  | none =>
    refine wpAny_genexprCodeX hcode (cd.code hPs ht) (cd.tab hPs) hf fun c' h' tk hx hge hlt hco' _ htab' _ => ?_
    obtain ⟨o1, vs, f1, tf, fl, tg', inF, tx, tt, op, _, _, _, _, _, _, _, _, _, htr, _⟩ := hco'
    exact cont _ h' tk _ hx (Nat.le_trans hge (Nat.le_of_lt hlt)) htab'.2 ⟨_, rfl⟩ htr
  | some cv =>
    refine wpAny_genexprCode_hit hcode (cd.code hPs ht) hf ?_
    exact cont cv s2.heap s2.toks ps (Heap.ExtBut.refl _ _) (Nat.le_refl _) hPs ⟨#[], by simp⟩ ht
end
end GA

namespace GA
open PySem PySem.Spec PyProof.Rows L2 GxR GenW
/-- a generator expression's own scope -/
structure GenOk (scope : Scope) : Prop where
  co : scope.isCoroutine = false
  cell : ∀ y ∈ scope.names, y.2 ≠ .cell
  dot : scope.names.lookup (".0" : Str) = some NameKind.local
def genC (scope : Scope) : Bool := !scope.isCoroutine && (scope.names.all fun y => match y.2 with | .cell => false | _ => true) && (match scope.names.lookup (".0" : Str) with | some .local => true | _ => false)
theorem genOk_by {scope : Scope} (h : genC scope = true) : GenOk scope := by
  unfold genC at h
  simp only [Bool.and_eq_true, List.all_eq_true] at h
  obtain ⟨⟨h1, h2⟩, h3⟩ := h
  refine ⟨by simpa using h1, fun y hy e => ?_, ?_⟩
  · have := h2 y hy
    rw [e] at this; cases this
  · split at h3
    · assumption
    · cases h3
section
variable {X : Cx}
theorem pe_allG {c P : Addr} {elt iter tg : Expr} {p pos gpos : Pos} {scope : Scope} {own : List (Str × Nat)} {wi : TI} {g : TG} {te : TE} {k : Nat} (hr : Room (k + 1) X.A) (hc : X.calm = true) (hN : X.N.Nodup) (TB : TabB X.base X.mg c P) (hcode : X.env.code = .ref c)
    (hg : Gl X "all") (hm : X.mg "all" = none) (hb : bootBuiltins "all" = some (.builtin "all")) (ok : BlkOk X.N X.env.scope scope own) (gok : GenOk scope) (hi : PI X tg iter wi)
    (pg : ∀ (s : Shared) (H : Hp) (C : Addr) (code : Value) (fp : List Addr) (A : Around) (pn : List (Addr × Obj)), PG (gblk X s H (genv X scope C code) fp A pn) tg g)
    (pe : ∀ (s : Shared) (H : Hp) (C : Addr) (code : Value) (fp : List Addr) (A : Around) (pn : List (Addr × Obj)), Room k A → PE (gblk X s H (genv X scope C code) fp A pn) elt te)
    (hs : ∀ v, genFold iter X.env v = pure v)
    (he : starEach [.GeneratorExp elt [⟨tg, iter, [], 0⟩] scope gpos] X.env = (false, eval (.GeneratorExp elt [⟨tg, iter, [], 0⟩] scope gpos) X.env) :: starEach [] X.env := by rfl) :
    PE X (.Call (.Name "all" p) [.GeneratorExp elt [⟨tg, iter, [], 0⟩] scope gpos] [] pos) (tQuant P false wi g te (own.map (·.2))) := by
  refine ⟨fun pins s σ H Q I h => ?_⟩
  refine wpAny_Call_Name_kw (ld_blt I hg hm hb ?_)
  refine PyProof.Rows.callWith_builtin1 ?_ he (by rfl)
  rw [he]
  show wpAny _ _ (spliced ((false, eval (.GeneratorExp elt [⟨tg, iter, [], 0⟩] scope gpos) X.env) :: backTo pos (starEach [] X.env))) _ _ s
  refine Calls.spliced_cons (thn (gen_make hr hc hN TB hcode ok gok.co gok.cell gok.dot hi pg pe hs I h) fun u s6 hM => ?_)
  obtain ⟨a, g', n, Xg, σ', H', rfl, isg, I6, hgo, back⟩ := hM
  refine Calls.spliced_nil ?_
  refine call_function_tree F.kind_all F.plain_all F.entry_all (F.args_all1 _) ?_
  unfold Builtin.«all»
  refine wpAny_bind (m := oneArg "all" _) (wpAny_pure ?_)
  refine wpAny_bind (wpAny_pyIter_gen (isg I6) ?_)
  exact wpAny_pure ⟨plainId_quiet F.plain_all_loop _, all_loop hr.hd hr.depth isg (fun b σ1 H1 s1 J q => ⟨.bl b, H1, back σ1 H1 s1 J, rfl, q⟩) n s6 σ' H' I6 hgo⟩
theorem pe_anyG {c P : Addr} {elt iter tg : Expr} {p pos gpos : Pos} {scope : Scope} {own : List (Str × Nat)} {wi : TI} {g : TG} {te : TE} {k : Nat} (hr : Room (k + 1) X.A) (hc : X.calm = true) (hN : X.N.Nodup) (TB : TabB X.base X.mg c P) (hcode : X.env.code = .ref c)
    (hg : Gl X "any") (hm : X.mg "any" = none) (hb : bootBuiltins "any" = some (.builtin "any")) (ok : BlkOk X.N X.env.scope scope own) (gok : GenOk scope) (hi : PI X tg iter wi)
    (pg : ∀ (s : Shared) (H : Hp) (C : Addr) (code : Value) (fp : List Addr) (A : Around) (pn : List (Addr × Obj)), PG (gblk X s H (genv X scope C code) fp A pn) tg g)
    (pe : ∀ (s : Shared) (H : Hp) (C : Addr) (code : Value) (fp : List Addr) (A : Around) (pn : List (Addr × Obj)), Room k A → PE (gblk X s H (genv X scope C code) fp A pn) elt te)
    (hs : ∀ v, genFold iter X.env v = pure v)
    (he : starEach [.GeneratorExp elt [⟨tg, iter, [], 0⟩] scope gpos] X.env = (false, eval (.GeneratorExp elt [⟨tg, iter, [], 0⟩] scope gpos) X.env) :: starEach [] X.env := by rfl) :
    PE X (.Call (.Name "any" p) [.GeneratorExp elt [⟨tg, iter, [], 0⟩] scope gpos] [] pos) (tQuant P true wi g te (own.map (·.2))) := by
  refine ⟨fun pins s σ H Q I h => ?_⟩
  refine wpAny_Call_Name_kw (ld_blt I hg hm hb ?_)
  refine PyProof.Rows.callWith_builtin1 ?_ he (by rfl)
  rw [he]
  show wpAny _ _ (spliced ((false, eval (.GeneratorExp elt [⟨tg, iter, [], 0⟩] scope gpos) X.env) :: backTo pos (starEach [] X.env))) _ _ s
  refine Calls.spliced_cons (thn (gen_make hr hc hN TB hcode ok gok.co gok.cell gok.dot hi pg pe hs I h) fun u s6 hM => ?_)
  obtain ⟨a, g', n, Xg, σ', H', rfl, isg, I6, hgo, back⟩ := hM
  refine Calls.spliced_nil ?_
  refine call_function_tree F.kind_any F.plain_any F.entry_any (F.args_any1 _) ?_
  unfold Builtin.«any»
  refine wpAny_bind (m := oneArg "any" _) (wpAny_pure ?_)
  refine wpAny_bind (wpAny_pyIter_gen (isg I6) ?_)
  exact wpAny_pure ⟨plainId_quiet F.plain_any_loop _, any_loop hr.hd hr.depth isg (fun b σ1 H1 s1 J q => ⟨.bl b, H1, back σ1 H1 s1 J, rfl, q⟩) n s6 σ' H' I6 hgo⟩
end
end GA

namespace DW
open PySem PySem.Spec PyProof.Rows L2 GA GxR
theorem stp_tab {F H H' : Hp} {P : Addr} (sb : Sub F H) (t0 : TabG H P) (tb : Tabbed P H H') : Stp F H F H' := by
  obtain ⟨t1, k⟩ := tb
  obtain ⟨ps, e0, _⟩ := id t0
  have nP : ∀ a o, H a = some o → (∀ ps, o ≠ .tbl ps) → a ≠ P := fun a o e n z => by
    rw [z, e0] at e; cases e; exact n _ rfl
  refine ⟨Ex.refl F, ⟨fun a o e n => ?_, sb.nt⟩, fun a o e n => ?_, fun a o e => ?_, fun Q t => ?_, fun _ _ _ n => n⟩
  · have := sb.ex a o e n
    rw [k a (nP a o this n)]; exact this
  · rw [k a (nP a o e n)]; exact e
  · by_cases ha : a = P
    · obtain ⟨ps', e1, _⟩ := t1
      exact ⟨_, by rw [ha]; exact e1⟩
    · exact ⟨o, by rw [k a ha]; exact e⟩
  · by_cases ha : Q = P
    · rw [ha]; exact t1
    · obtain ⟨ps', e1, r⟩ := t
      exact ⟨ps', by rw [k Q ha]; exact e1, r⟩
/-- all (e: false ends it), any (e: true) -/
def quantF (e : Bool) (f : PyData → Bool) (ds : List PyData) : Bool := if ds.any (fun d => decide (f d = e)) then e else !e
theorem quant_all (f : PyData → Bool) (ds : List PyData) : quantF false f ds = ds.all f := by
  unfold quantF
  rw [Bool.eq_iff_iff, List.all_eq_true]
  constructor
  · intro h d hd
    cases e : f d with
    | true => rfl
    | false =>
      rw [if_pos (List.any_eq_true.mpr ⟨d, hd, decide_eq_true e⟩)] at h; cases h
  · intro h
    rw [if_neg]
    · rfl
    · intro z
      obtain ⟨d, hd, e⟩ := List.any_eq_true.mp z
      have := of_decide_eq_true e
      rw [h d hd] at this; cases this
theorem quant_any (f : PyData → Bool) (ds : List PyData) : quantF true f ds = ds.any f := by
  unfold quantF
  have : (ds.any fun d => decide (f d = true)) = ds.any f := by congr 1; funext d; cases f d <;> rfl
  rw [this]
  cases h : ds.any f <;> rfl
section
variable {g : Gd} {G : List Sl} {te : TE} {tg : TG} {ds : List PyData} {ix : List Nat}
theorem e_quant {P : Addr} (hP : P ∈ g.T) {wi : TI} {vs : List Nat} {e : Bool} (f : PyData → Bool) (G1 : PyData → List Sl) (it : IT g wi G ds)
    (tgt : ∀ F1, ∀ d ∈ ds, Tg { g with Fl := F1 } tg d (wipeG G vs) (G1 d) ix) (hix : ∀ j ∈ ix, j ∈ vs) (he : ∀ F1, ∀ d ∈ ds, E { g with Fl := F1 } te (G1 d) (.bool (f d))) :
    E g (tQuant P e wi tg te vs) G (.bool (quantF e f ds)) := fun σ F H hh Q q => it σ F H hh _ fun J F1 H1 s1 W => by
  have hh1 := hh.mono s1
  have t1 := hh1.tab P hP
  refine ⟨t1, fun H2 tb => ?_⟩
  have s2 := stp_tab s1.i t1 tb
  have hh2 := hh1.mono s2
  have hw := Holds.wipe hh2 vs
  have hwl : Holds { g with Fl := F1 } (wipeG G vs) (wipe σ vs) F1 H2 := ⟨hw.len, hw.st, hw.sl, hw.apart, hw.tab, Ex.refl F1⟩
  refine ⟨ds.length, fun i H' => i ≤ ds.length ∧ ∃ F', Stp F1 H2 F' H' ∧ Holds { g with Fl := F1 } (wipeG G vs) (wipe σ vs) F' H' ∧ (ds.take i).any (fun d => decide (f d = e)) = false, ⟨Nat.zero_le _, F1, Stp.refl hh2.st.i, hwl, rfl⟩, ?_⟩
  rintro i H3 ⟨hi, F3, s3, hh3, no⟩
  by_cases hlt : i < ds.length
  · have hget := List.getElem?_eq_getElem hlt
    have hmem : ds[i] ∈ ds := List.getElem_mem hlt
    refine .inr ⟨hlt, W.go i F3 H3 hh3.lo hh3.st.i hlt, fun x H4 y => ?_⟩
    obtain ⟨F4, s4, d4⟩ := W.yld i F3 H3 x H4 ds[i] hh3.lo hh3.st.i hget y
    refine tgt F1 ds[i] hmem x (wipe σ vs) F4 H4 (hh3.mono s4) d4 _ fun σ5 hh5 w5 => ⟨?_, ?_⟩
    · rw [w5 vs hix]
      have ww : ∀ (l : List Nat), (∀ j ∈ l, j ∈ vs) → wipe (wipe σ l) vs = wipe σ vs := by
        intro l
        induction l with
        | nil => intro _; rfl
        | cons v l ih => intro hl; show wipe ((wipe σ l).set v none) vs = _; rw [wipe_set (hl v List.mem_cons_self)]; exact ih fun j hj => hl j (List.mem_cons_of_mem _ hj)
      exact ww vs fun _ h => h
    · refine he F1 ds[i] hmem σ5 F4 H4 hh5 _ fun v F5 H5 s5 d5 => ?_
      cases d5
      have ss := s4.trans s5
      refine ⟨f ds[i], rfl, ?_⟩
      by_cases hf : f ds[i] = e
      · refine .inl ⟨hf, ?_⟩
        have : quantF e f ds = e := by unfold quantF; rw [if_pos (List.any_eq_true.mpr ⟨_, hmem, decide_eq_true hf⟩)]
        rw [← this]
        exact q _ F5 H5 ((s1.trans s2).trans (s3.trans ss)) (this ▸ .bl _)
      · refine .inr ⟨hf, hlt, F5, s3.trans ss, hh3.mono ss, ?_⟩
        rw [List.take_succ, hget, List.any_append, no]
        show (false || (decide (f ds[i] = e) || false)) = false
        rw [decide_eq_false hf]; rfl
  · have e2 : i = ds.length := by omega
    subst e2
    refine .inl ⟨rfl, W.stop F3 H3 hh3.lo hh3.st.i, ?_⟩
    rw [List.take_length] at no
    have : quantF e f ds = !e := by unfold quantF; rw [if_neg (by rw [no]; decide)]
    rw [← this]
    exact q _ F3 H3 ((s1.trans s2).trans s3) (.bl _)
end
/-! the code object of a def with a table -/
section
variable {P : Program} {w : World} {K : PySem.W.Frag} {mg : Str → Option Value} {base : Heap} {x qual : Str} {st : Stmt} {f : Addr} {fd : FuncData} {Nn ps : List Str} {k : Nat} {Tb : List Addr} {c Pt : Addr}
theorem code_of (F : Fun K x qual st f fd) (hns : PySem.W.nsIn K mainGlobals x = some (some (.ref f))) (ht : PySem.W.tabIn K x = some (c, Pt)) : fd.code = .ref c := by
  obtain ⟨oc, od, kV, doc, pm, an, cdv, ct, osl, rfl, lk, hcd⟩ := F.ex
  unfold PySem.W.tabIn at ht
  rw [hns] at ht
  simp only [lk] at ht
  split at ht
  · split at ht
    · split at ht
      · cases ht
        first | rfl | assumption
      · cases ht
    · cases ht
  · cases ht
theorem df_DT (F : Fun K x qual st f fd) (hns : PySem.W.nsIn K mainGlobals x = some (some (.ref f))) (ht : PySem.W.tabIn K x = some (c, Pt)) (Sc : FnScope Nn ps (defScope st)) (hm : mg x = some (.ref f)) (hb : Binds K fd ps []) {R : List PyData → PyData → Prop} (hlen : ∀ ds d, R ds d → ds.length = ps.length)
    (body : ∀ (A : Around) (outer : List Env) (s : Shared) (H : Hp) (E : XK), Room k (A.deeper (envOfC qual (defScope st) s.heap.objs.size f (.ref c))) →
      ∃ t, PSs (cxOf CX0 P w K mg base Nn qual (defScope st) f (.ref c) A outer s H E).nox (defBody st) t ∧ ∀ (ds : List PyData) (d : PyData) (F0 H0 : Hp) (Q : VK), R ds d → Rt ⟨K, Tb, F0, H0, F0⟩ Q d → S ⟨K, Tb, F0, H0, F0⟩ t { nx := fun _ H' => Q .non H', rt := Q } (startG Nn.length ds)) :
    Df P w K mg base (k + 1) x ps (spD K Tb R) := by
  have hc := code_of F hns ht
  refine ⟨f, fd, ?_, hm, F.kp, hb⟩
  obtain ⟨oc, od, kV, doc, pm, an, cdv, ct, osl, rfl, lk, hcd⟩ := F.ex
  have hc' : cdv = .ref c := hc
  subst hc'
  refine fn_of lk hcd Sc (fun vs H Q E h => ?_) fun A outer s H vs Q E hr h => ?_
  · obtain ⟨F, ds, d, _, _, hd, r, _⟩ := h
    exact (dps_len hd).trans (hlen ds d r)
  · obtain ⟨F1, ds, d, sb, ht, hd, r, q⟩ := h
    obtain ⟨t, h1, h2⟩ := body A outer s H E hr
    exact ⟨t, h1.nox, h2 ds d F1 H Q r q _ F1 H (holds_start sb ht hd)⟩
end
end DW
namespace LamX
open PySem PySem.Spec PyProof.Rows L2
/-- the end of a row with the tables of its defs -/
theorem walk_ofTop {l : PySem.W.OpenLaw} {n k : Nat} {q : Program} {loose : List Str} {XP : (Str → Option Value) → Heap → Prop} {YP : World → Heap → Prop} {d : DefRec} {K : Params → PySem.W.Frag} {CX : World → CXT} {x : Str}
    (hn : l.most = some n) (hn2 : n ≤ sizeLine) (hdf : d.params.defaults = []) (hr : Room k callerA) (hY : ∀ (w : World) (h : Heap), YP w h → (K w.params).In h)
    (F : ∀ (w : World) (mg : Str → Option Value) (fa : Addr) (h : Heap), YP w h → (K w.params).In h → h.Ns mainGlobals mg → mg d.name = some (.ref fa) →
      (∀ (dd : DefRec) (y : Str) (c P : Addr), (recsOf q).find? (fun e => e.name == y) = some dd → PySem.W.tabIn (K w.params) y = some (c, P) → PySem.W.CodeHd h c P ∧ h.get? P = some (PySem.W.tabObj #[])) → LawAtS l w (K w.params) (CX w) k n x mg fa h)
    (hCX : ∀ (w : World) (H : Hp) (s : Shared) (e : Value) (s' : Shared), CX w [] H s (fun _ _ _ => False) e s' → False) :
    PySem.W.WalkO q loose XP YP l.row.toRowW d [] (fun f vs => PySem.call f vs) := by
  refine Att.attach_callB hn hdf fun w s₀ s₁ mg mb fa o pm cd doc a vs ns G Y ho hd hcd hmg hobj hints hlen hbits hg => ?_
  have KX := hY w _ Y
  obtain ⟨fd, cs, sp, hT, nT, C, hb, hsp, hF⟩ := F w mg fa _ Y KX G.T.g hmg fun dd y c P h1 h2 => PySem.W.tab_of G.T KX h1 h2
  exact law_callTs KX G.T.g G.T.b G.T.builtins G.T.nolimit hg hT nT C G.T.bmain hobj hints (Nat.le_trans hlen hn2) hr hF hb (fun H hH hS => hsp H a ns hlen hbits hH hS) fun H e s' => hCX w H s₁ e s'
end LamX

/-! is True, is not False -/
namespace DW
open PySem PySem.Spec PyProof.Rows L2
def rIsBB : R2 := fun x y H Q => ∃ a b, x = .bl a ∧ y = .bl b ∧ Q (.bl (decide (a = b))) H
def rNtBB : R2 := fun x y H Q => ∃ a b, x = .bl a ∧ y = .bl b ∧ Q (.bl (!decide (a = b))) H
theorem uIsB {X : Cx} : OpR X (compareOp .Is) rIsBB := op_is_bl
theorem uNtB {X : Cx} : OpR X (compareOp .IsNot) rNtBB := op_isnot_bl
section
variable {g : Gd}
theorem is_bb {a b : Bool} : RB g rIsBB (.bool a) (.bool b) (.bool (decide (a = b))) := fun u v H hu hv Q q => by
  cases hu; cases hv; exact ⟨a, b, rfl, rfl, q _ (.bl _)⟩
theorem nt_bb {a b : Bool} : RB g rNtBB (.bool a) (.bool b) (.bool (!decide (a = b))) := fun u v H hu hv Q q => by
  cases hu; cases hv; exact ⟨a, b, rfl, rfl, q _ (.bl _)⟩
end
end DW

namespace DW
open PySem PySem.Spec PyProof.Rows L2
theorem tab_in {K : PySem.W.Frag} {x : Str} {f c P : Addr} {fd : FuncData} {oc o2 : Value} {od d2 : Option Addr} {sl s2 : Array (Option Value)} {vs : Array Value} (a : PySem.W.nsIn K mainGlobals x = some (some (.ref f))) (l : K.lookup f = some ⟨oc, od, .func fd, sl⟩) (hc : fd.code = .ref c)
    (m : K.lookup c = some ⟨o2, d2, .fields vs, s2⟩) (v : vs[11]? = some (.ref P)) : PySem.W.tabIn K x = some (c, P) := by
  unfold PySem.W.tabIn
  rw [a]
  simp only [l, hc, m, v]
theorem tab_gx {base : Heap} {mg : Str → Option Value} {c P : Addr} (h : LamX.TabB base mg c P) : GxR.TabB base mg c P := ⟨h.code, h.bm, h.gP⟩
end DW

/-! enumerate, zip, is True of any data, isinstance of any data -/
namespace DW
open PySem PySem.Spec PyProof.Rows L2
def enD : Nat → List PyData → List PyData
  | _, [] => []
  | n, d :: ds => .tuple [.int (n : Nat), d] :: enD (n + 1) ds
theorem enD_len : ∀ (n : Nat) (ds : List PyData), (enD n ds).length = ds.length
  | _, [] => rfl
  | n, d :: ds => by show (enD (n + 1) ds).length + 1 = _; rw [enD_len]; rfl
theorem enD_get : ∀ (n : Nat) (ds : List PyData) (i : Nat) (e : PyData), (enD n ds)[i]? = some e → ∃ d, ds[i]? = some d ∧ e = .tuple [.int ((n + i : Nat) : Int), d]
  | _, [], i, e, h => by cases h
  | n, d :: ds, 0, e, h => ⟨d, rfl, (Option.some.inj h).symm⟩
  | n, d :: ds, i + 1, e, h => by
    obtain ⟨x, h1, h2⟩ := enD_get (n + 1) ds i e h
    exact ⟨x, h1, by rw [h2]; congr 3; omega⟩
section
variable {g : Gd} {G : List Sl} {te ta tb : TE} {ds es : List PyData}
theorem it_enum (h : E g te G (.list ds)) : IT g (iEnum g.K (tCons te tNil)) G (enD 0 ds) := fun σ F H hh R r => h σ F H hh _ fun v F1 H1 s1 d1 => by
  obtain ⟨a, vs, rfl, h1, h2⟩ := dp_sq d1
  refine ⟨a, vs, rfl, s1.i.ex.l h1, r _ F1 H1 s1 ⟨fun i F2 H2 e sb hi => ?_, fun F2 H2 e sb => ?_, fun i F2 H2 x H' d e sb hd hy => ?_⟩⟩
  · rw [enD_len] at hi
    have hi' : i < vs.length := by rw [dps_len h2]; exact hi
    exact ⟨vs, vs[i], sb.ex.l (e.l h1), List.getElem?_eq_getElem hi'⟩
  · exact ⟨vs, sb.ex.l (e.l h1), by rw [dps_len h2, enD_len]; exact Nat.le_refl _⟩
  · obtain ⟨T, y, rfl, hT, rfl, q⟩ := hy
    obtain ⟨d', hd', rfl⟩ := enD_get 0 ds i d hd
    obtain ⟨w, e1, e2⟩ := dps_get h2 hd'
    have e3 := q vs (sb.ex.l (e.l h1))
    obtain rfl : w = y := Option.some.inj (e1.symm.trans e3)
    have st := Stp.new (o := .tup [.int ((i : Nat) : Int), w]) sb hT fun _ z => by cases z
    refine ⟨_, st, ?_⟩
    rw [Nat.zero_add]
    exact .tup (.inl (.inl upd_same)) (.cons (.int _) (.cons (st.f.dp _ w (e.dp _ w e2)) .nil))
end
/-! is True, is False of any data -/
def rIsD : R2 := fun x y H Q => ∃ b : Bool, y = .bl b ∧ (x = .non ∨ (∃ a, x = .bl a) ∨ (∃ i, x = .int i) ∨ (∃ i, x = .str i) ∨ ∃ a, x = .ref a) ∧ Q (.bl (decide (x = .bl b))) H
theorem uIsD {X : Cx} : OpR X (compareOp .Is) rIsD := by
  intro pins s σ H x y v u Q I rx ry h
  obtain ⟨b, rfl, hx, q⟩ := h
  cases (show u = Value.bool b from ry)
  rcases hx with rfl | ⟨a, rfl⟩ | ⟨i, rfl⟩ | ⟨i, rfl⟩ | ⟨a, rfl⟩
  · cases rx
    exact wpAny_is_other rfl (fun z => by cases z) ⟨.bl false, H, I, rfl, by simpa using q⟩
  · cases (show v = Value.bool a from rx)
    by_cases e : a = b
    · subst e
      exact wpAny_is_self rfl ⟨.bl true, H, I, rfl, by simpa using q⟩
    · exact wpAny_is_other rfl (fun z => e (Value.bool.inj z)) ⟨.bl false, H, I, rfl, by simpa [e] using q⟩
  · obtain ⟨t, rfl⟩ := rx
    exact wpAny_is_other rfl (fun z => by cases z) ⟨.bl false, H, I, rfl, by simpa using q⟩
  · obtain ⟨t, rfl⟩ := rx
    exact wpAny_is_other rfl (fun z => by cases z) ⟨.bl false, H, I, rfl, by simpa using q⟩
  · cases (show v = Value.ref a from rx)
    exact wpAny_is_other rfl (fun z => by cases z) ⟨.bl false, H, I, rfl, by simpa using q⟩
def isBD : PyData → Bool → Bool
  | .bool a, b => decide (a = b)
  | _, _ => false
def tyN : PyData → String
  | .none => "NoneType"
  | .bool _ => "bool"
  | .int _ => "int"
  | .str _ => "str"
  | .list _ => "list"
  | .tuple _ => "tuple"
  | .dict _ => "dict"
def isiS (a b : String) : Bool := decide (a = b) || (decide (a = "bool") && decide (b = "int"))
theorem kitF {K : PySem.W.Frag} {a b : String} (ha : a ∈ ["NoneType", "bool", "int", "str", "list", "tuple"]) (hb : b ∈ ["int", "str", "tuple", "list", "bool"]) : PySem.W.kitOne K (.type a) (.type b) = some (isiS a b) := by
  simp only [List.mem_cons, List.not_mem_nil, or_false] at ha hb
  unfold PySem.W.kitOne
  rcases ha with rfl | rfl | rfl | rfl | rfl | rfl <;> rcases hb with rfl | rfl | rfl | rfl | rfl <;> first
    | (rw [if_pos (by decide +kernel)]; rfl)
    | (rw [if_neg (by decide +kernel)]; rfl)
section
variable {g : Gd} {G : List Sl} {te : TE} {x : PyData}
theorem is_d {b : Bool} : RB g rIsD x (.bool b) (.bool (isBD x b)) := fun u v H hu hv Q q => by
  cases hv
  have e : ∀ w : V, w = u → (∀ a, w ≠ .bl a) → decide (u = .bl b) = false := fun w h n => decide_eq_false fun z => n b (h.trans z)
  cases hu with
  | non => exact ⟨b, rfl, .inl rfl, by rw [e .non rfl (fun a z => by cases z)]; exact q _ (.bl _)⟩
  | bl a => exact ⟨b, rfl, .inr (.inl ⟨a, rfl⟩), by
      have : decide (V.bl a = V.bl b) = decide (a = b) := by cases a <;> cases b <;> rfl
      rw [this]; exact q _ (.bl _)⟩
  | int i => exact ⟨b, rfl, .inr (.inr (.inl ⟨i, rfl⟩)), by rw [e (.int i) rfl (fun a z => by cases z)]; exact q _ (.bl _)⟩
  | str i => exact ⟨b, rfl, .inr (.inr (.inr (.inl ⟨i, rfl⟩))), by rw [e (.str i) rfl (fun a z => by cases z)]; exact q _ (.bl _)⟩
  | lst h1 h2 => exact ⟨b, rfl, .inr (.inr (.inr (.inr ⟨_, rfl⟩))), by rw [e _ rfl (fun a z => by cases z)]; exact q _ (.bl _)⟩
  | tup h1 h2 => exact ⟨b, rfl, .inr (.inr (.inr (.inr ⟨_, rfl⟩))), by rw [e _ rfl (fun a z => by cases z)]; exact q _ (.bl _)⟩
theorem e_isiD {T : String} (h : B g te G x) (hT : T ∈ ["int", "str", "tuple", "list", "bool"]) : E g (tCB (rIsi g.K) (tCons te (tCons (tC (.ty T)) tNil))) G (.bool (isiS (tyN x) T)) := fun σ F H hh Q q => h σ F H hh _ fun v F1 H1 s1 d1 => by
  have go : ∀ (t : String), tyN x = t → t ∈ ["NoneType", "bool", "int", "str", "list", "tuple"] → TyX g.K H1 v (.type t) → rIsi g.K [v, .ty T] H1 Q := fun t e ht ty =>
    ⟨v, .ty T, .type t, .type T, isiS (tyN x) T, rfl, .ty T, ty, by rw [e]; exact kitF ht hT, q _ F1 H1 s1 (.bl _)⟩
  cases d1 with
  | non => exact go "NoneType" rfl (by simp) (.base .non)
  | bl a => exact go "bool" rfl (by simp) (.base (.bl a))
  | int i => exact go "int" rfl (by simp) (.base (.int i))
  | str i => exact go "str" rfl (by simp) (.base (.str i))
  | lst h1 h2 =>
    refine go "list" rfl (by simp) ?_
    rcases h1 with (h1 | ⟨o, h1⟩) | ⟨o, its, n, e1, e2, _⟩
    · exact .base (.lst h1)
    · exact .base (.frz h1)
    · exact .kList e1 e2
  | tup h1 h2 =>
    refine go "tuple" rfl (by simp) ?_
    rcases h1 with (h1 | ⟨o, h1⟩) | ⟨o, its, n, e1, e2, _⟩
    · exact .base (.tup h1)
    · exact .fTuple h1
    · exact .kTuple e1 e2
end
theorem at_end {α : Type} {xs : List α} {x : α} : atI (xs ++ [x]) (-1) = some x := by
  unfold atI
  have e : ixN (xs ++ [x]).length (-1) = some xs.length := by
    rw [List.length_append, List.length_singleton]
    unfold ixN
    rw [if_neg (by omega), if_pos (by omega)]
    congr 1
    omega
  rw [e]
  show (xs ++ [x])[xs.length]? = some x
  rw [List.getElem?_append_right (Nat.le_refl _), Nat.sub_self]
  rfl
end DW

/-! for over our own list that the turns leave alone -/
namespace DW
open PySem PySem.Spec PyProof.Rows L2
theorem slok_h0 {K : PySem.W.Frag} {H0 H0' F H : Hp} {o : Option V} : ∀ {s : Sl}, s.mine = false → SlOk K H0 F H o s → SlOk K H0' F H o s
  | .un, _, _ => trivial
  | .fz _, _, h => h
  | .raw _, _, h => h
  | .ow _, m, _ => by cases m
  | .od _, m, _ => by cases m
  | .ob _, m, _ => by cases m
  | .fk kvs, m, ⟨p, vs, h⟩ => by first | exact ⟨p, vs, h⟩ | cases m
section
variable {g : Gd} {G : List Sl} {ds : List PyData} {D : Ends} {tg : TG} {tu tw : TS}
theorem s_forO {α : Type} {j : Nat} (Iv : Nat → α → List Sl) (P : Nat → α → Prop) (hj : G[j]? = some (.ow ds)) (no : ∀ (k : Nat) t, G[k]? = some t → t.mine = true → k = j) (a0 : α) (p0 : P 0 a0)
    (w0 : ∀ v, Wk (G.set j (.raw v)) ((Iv 0 a0).set j (.raw v)))
    (hm : ∀ i a (k : Nat) t, (Iv i a)[k]? = some t → t.mine = false) (hl : ∀ i a, j < (Iv i a).length)
    (turn : ∀ F0 H0 F1 v (i : Nat) (a : α) (d : PyData), ds[i]? = some d → P i a → ∃ G1 ix, Tg { g with F0 := F0, H0 := H0, Fl := F1 } tg d ((Iv i a).set j (.raw v)) G1 ix ∧
      S { g with F0 := F0, H0 := H0, Fl := F1 } tu { D with nx := nxI { g with F0 := F0, H0 := H0, Fl := F1 } (fun a => (Iv (i + 1) a).set j (.raw v)) (P (i + 1)), ct := nxI { g with F0 := F0, H0 := H0, Fl := F1 } (fun a => (Iv (i + 1) a).set j (.raw v)) (P (i + 1)), bk := D.nx } G1)
    (done : ∀ a, P ds.length a → N g D.nx ((Iv ds.length a).set j (.ow ds))) : S g (tFor (iAny g.K (tVar j)) tg tu) D G := fun σ F H hh => by
  obtain ⟨o, e, p, vs, ev, h0, hF, hH, hd⟩ := hh.at_ hj
  subst ev
  have len := dps_len hd
  have hjl : j < G.length := (List.getElem?_eq_some_iff.mp hj).1
  have st0 : Holds { g with F0 := F, H0 := H, Fl := F } (G.set j (.raw (.ref p))) σ F H := by
    refine ⟨by rw [List.length_set]; exact hh.len, Stp.refl hh.st.i, fun i s o e1 e2 => ?_, fun i k s t q e1 e2 m1 m2 e3 e4 => ?_, hh.tab, Ex.refl F⟩
    · by_cases hi : j = i
      · subst hi
        rw [List.getElem?_set_self hjl] at e1
        cases e1
        rw [e] at e2; cases e2
        exact rfl
      · rw [List.getElem?_set_ne hi] at e1
        have nm : s.mine = false := by
          cases z : s.mine with
          | false => rfl
          | true => exact absurd (no i s e1 z).symm hi
        exact slok_h0 nm (hh.sl i s o e1 e2)
    · by_cases hi : j = i
      · subst hi
        rw [List.getElem?_set_self hjl] at e1
        cases e1
        cases m1
      · rw [List.getElem?_set_ne hi] at e1
        exact absurd (no i s e1 m1).symm hi
  refine .inl (.inl ⟨.ref p, e, p, rfl, ⟨vs, .inl (.inl hH)⟩, ?_⟩)
  refine ⟨fun i m σ H' => m = ds.length - i ∧ i ≤ ds.length ∧ nxI { g with F0 := F, H0 := H, Fl := F } (fun a => (Iv i a).set j (.raw (.ref p))) (P i) σ H', ⟨ds.length, by simp, Nat.zero_le _, a0, p0, F, st0.wk (w0 _)⟩, ?_⟩
  rintro i m σ2 H2 ⟨rfl, hi, a, pp, F2, hh2⟩
  have hH2 : H2 p = some (.lst vs) := hh2.st.h.lst hH
  by_cases hlt : i < ds.length
  · have hv : i < vs.length := by omega
    refine .inr ⟨⟨vs, vs[i], .inl (.inl hH2), List.getElem?_eq_getElem hv⟩, nxI { g with F0 := F, H0 := H, Fl := F } (fun a => (Iv (i + 1) a).set j (.raw (.ref p))) (P (i + 1)), fun σ' H' q => ⟨ds.length - (i + 1), by omega, rfl, hlt, q⟩, fun x H' y => ?_⟩
    obtain ⟨rfl, q⟩ := y
    obtain ⟨w, e1, e2⟩ := dps_get hd (List.getElem?_eq_getElem hlt)
    obtain rfl : w = x := Option.some.inj (e1.symm.trans (q vs (.inl (.inl hH2))))
    obtain ⟨G1, ix, ht, hs⟩ := turn F H F (.ref p) i a ds[i] (List.getElem?_eq_getElem hlt) pp
    exact ht w σ2 F2 _ hh2 (hh2.st.f.dp _ w e2) _ fun σ' h' _ => hs σ' F2 _ h'
  · have e5 : i = ds.length := by omega
    subst e5
    refine .inl ⟨⟨vs, .inl (.inl hH2), by omega⟩, done a pp σ2 F2 H2 ?_⟩
    refine ⟨by rw [List.length_set]; have := hh2.len; rw [List.length_set] at this; exact this, hh.st.trans hh2.st, fun k s o e1 e2 => ?_, fun k l s t q e1 e2 m1 m2 e3 e4 => ?_, hh2.tab, hh.lo.trans hh2.st.f⟩
    · by_cases hk : j = k
      · subst hk
        rw [List.getElem?_set_self (hl _ _)] at e1
        cases e1
        have z : o = some (.ref p) := hh2.sl j (.raw (.ref p)) o (List.getElem?_set_self (hl _ _)) e2
        exact ⟨p, vs, z, h0, hh2.st.n p _ hH hF, hH2, hh2.st.f.dps ds vs hd⟩
      · rw [List.getElem?_set_ne hk] at e1
        exact slok_h0 (hm _ _ k s e1) (hh2.sl k s o (by rw [List.getElem?_set_ne hk]; exact e1) e2)
    · have one : ∀ (k : Nat) s, ((Iv ds.length a).set j (.ow ds))[k]? = some s → s.mine = true → j = k := fun k s e1 m1 => by
        by_cases hk : j = k
        · exact hk
        · rw [List.getElem?_set_ne hk] at e1
          rw [hm _ _ k s e1] at m1; cases m1
      exact (one k s e1 m1).symm.trans (one l t e2 m2)
/-- .. one state a turn -/
theorem q_forO1 {j : Nat} (Iv : Nat → List Sl) (hj : G[j]? = some (.ow ds)) (no : ∀ (k : Nat) t, G[k]? = some t → t.mine = true → k = j)
    (w0 : ∀ v, Wk (G.set j (.raw v)) ((Iv 0).set j (.raw v)))
    (hm : ∀ i (k : Nat) t, (Iv i)[k]? = some t → t.mine = false) (hl : ∀ i, j < (Iv i).length)
    (turn : ∀ F0 H0 F1 v (i : Nat) (d : PyData), ds[i]? = some d → ∃ G1 ix, Tg { g with F0 := F0, H0 := H0, Fl := F1 } tg d ((Iv i).set j (.raw v)) G1 ix ∧
      S { g with F0 := F0, H0 := H0, Fl := F1 } tu { nx := nxI { g with F0 := F0, H0 := H0, Fl := F1 } (fun _ : Unit => (Iv (i + 1)).set j (.raw v)) (fun _ => True), rt := D.rt, ct := nxI { g with F0 := F0, H0 := H0, Fl := F1 } (fun _ : Unit => (Iv (i + 1)).set j (.raw v)) (fun _ => True), bk := tw D } G1)
    (done : S g tw D ((Iv ds.length).set j (.ow ds))) : S g (tSeq (tFor (iAny g.K (tVar j)) tg tu) tw) D G :=
  s_forO (D := { D with nx := tw D }) (fun i (_ : Unit) => Iv i) (fun _ _ => True) hj no () trivial w0 (fun i _ => hm i) (fun i _ => hl i) (fun F0 H0 F1 v i _ d hd _ => turn F0 H0 F1 v i d hd) fun _ _ => done
end
end DW

/-! enumerate of a tuple -/
namespace DW
open PySem PySem.Spec PyProof.Rows
section
variable {prog : Program} {w : World} {A : Around} {E : Value → Shared → Prop} {s : Shared} {it t : Addr} {i : Nat} {items : Array Value}
theorem ref_non (t : Addr) : ¬ ((Value.ref t == Value.none) = true) := fun h => by cases (beq_iff_eq.mp h)
theorem wp_else {α : Type} {M : Model} {Q : α → Shared → Prop} {c : Prop} [Decidable c] {a b : Sem α} (h : ¬ c) (k : wpAny M A b Q E s) : wpAny M A (if c then a else b) Q E s := by rw [if_neg h]; exact k
theorem wp_of {α : Type} {M : Model} {Q : α → Shared → Prop} {a b : Sem α} (h : a = b) (k : wpAny M A b Q E s) : wpAny M A a Q E s := h ▸ k
theorem next_tup_item {x : Value} {Q : Value → Shared → Prop} (hi : s.heap.IsTupleIter it t i) (ht : s.heap.IsTuple t items) (hx : items[i]? = some x)
    (hQ : ∀ h' : Heap, h'.IsTupleIter it t (i + 1) → Heap.SameBut it s.heap h' → Q x { heap := h', gens := s.gens, drawn := s.drawn, toks := s.toks, os := s.os }) :
    wpAny (model prog w) A (Builtin.SmallTypes.nextOf (.ref it)) Q E s := by
  have ti := hi.typeIs
  obtain ⟨o, g1, g2, g3⟩ := hi
  obtain ⟨o2, k1, k2, n, k3⟩ := ht
  unfold Builtin.SmallTypes.nextOf
  refine wpAny_bind (wpAny_callSpecial?_slot ti F.slot_tuple_iterator_next ?_)
  refine wpAny_call_entry F.slot_tuple_iterator_next ti F.entry_tuple_iterator_next ?_ (F.args_tuple_iterator_next_1 _)
  refine wpAny_bind (wpAny_pure (a := (Value.ref it, [])) ?_)
  refine wpAny_bind (wpAny_field g1 g3 rfl ?_)
  refine wp_else (ref_non t) ?_
  refine wpAny_bind (wpAny_field g1 g3 rfl ?_)
  refine wpAny_bind (wpAny_seqItems k1 k3 ?_)
  have e : items[((i : Nat) : Int).toNat]? = some x := by rw [Int.toNat_natCast]; exact hx
  simp only [e]
  refine wpAny_bind (wpAny_setField (i := 1) g1 g3 (Nat.lt_succ_self 1) ?_)
  refine wpAny_pure ⟨x, rfl, wpAny_pure (hQ _ ?_ (Heap.SameBut.update _ _ _))⟩
  refine ⟨_, Heap.get?_update_self _ g1 (Obj.isFreed_of_fields (Obj.data_mapFields g3 _)), ?_, (Obj.data_mapFields g3 _).trans ?_⟩
  · rw [Obj.cls_mapFields]; exact g2
  · rfl
theorem next_tup_end {Q : Value → Shared → Prop} (hA : A.handled = none) (hi : s.heap.IsTupleIter it t i) (ht : s.heap.IsTuple t items) (hx : items[i]? = none)
    (hQ : ∀ (h' : Heap) (e : Addr), Heap.ExtBut it s.heap h' → (∃ o, h'.get? e = some o ∧ o.cls = Value.type "StopIteration") → E (.ref e) { heap := h', gens := s.gens, drawn := s.drawn, toks := s.toks, os := s.os }) :
    wpAny (model prog w) A (Builtin.SmallTypes.nextOf (.ref it)) Q E s := by
  have ti := hi.typeIs
  obtain ⟨o, g1, g2, g3⟩ := hi
  obtain ⟨o2, k1, k2, n, k3⟩ := ht
  unfold Builtin.SmallTypes.nextOf
  refine wpAny_bind (wpAny_callSpecial?_slot ti F.slot_tuple_iterator_next ?_)
  refine wpAny_call_entry F.slot_tuple_iterator_next ti F.entry_tuple_iterator_next ?_ (F.args_tuple_iterator_next_1 _)
  refine wpAny_bind (wpAny_pure (a := (Value.ref it, [])) ?_)
  refine wpAny_bind (wpAny_field g1 g3 rfl ?_)
  refine wp_else (ref_non t) ?_
  refine wpAny_bind (wpAny_field g1 g3 rfl ?_)
  refine wpAny_bind (wpAny_seqItems k1 k3 ?_)
  have e : items[((i : Nat) : Int).toNat]? = none := by rw [Int.toNat_natCast]; exact hx
  simp only [e]
  refine wpAny_bind (wpAny_rule ?_)
  refine wpAny_bind (wpAny_setField (i := 0) g1 g3 (Nat.succ_pos 1) ?_)
  unfold Builtin.SmallTypes.stopIteration newExc
  refine wpAny_bind (wpAny_bind (wpAny_newTuple ?_))
  refine wpAny_bind (wpAny_bind (wpAny_pure (wpAny_pure ?_)))
  refine wpAny_newObj_type ?_ (sizeOk_excFields _ _ _ _ _ _ _ _)
  refine wpAny_bind (wpAny_handled ?_)
  have hA' : A.in1.handled = none := hA
  rw [hA']
  refine wpAny_throw (hQ _ _ ?_ ⟨_, Heap.get?_push_size _ (Obj.isFreed_of_fields rfl), rfl⟩)
  · exact Heap.ExtBut.push (Heap.ExtBut.push (Heap.SameBut.extBut (Heap.SameBut.update _ _ _)) _) _
theorem Draws_tuple (hA : A.handled = none) (it t : Addr) (hn : t ≠ it) (items : Array Value) : Draws prog w A it [it, t] items.size (fun i v => items[i]? = some v) fun i h => h.IsTupleIter it t i ∧ h.IsTuple t items := by
  refine ⟨fun i h ⟨⟨o, g, _⟩, _⟩ => ⟨o, g⟩, fun i h h' ⟨⟨o, g1, g2, g3⟩, o2, k1, k2⟩ K => ⟨⟨o, K it (by simp) o g1, g2, g3⟩, o2, K t (by simp) o2 k1, k2⟩, fun i s Q E hi ⟨h1, h2⟩ q => ?_, fun s Q E ⟨h1, h2⟩ q => ?_⟩
  · refine next_tup_item h1 h2 (Array.getElem?_eq_getElem hi) fun h' a b => q _ h' s.toks (Array.getElem?_eq_getElem hi) ⟨a, ?_⟩ b
    obtain ⟨o2, k1, k2⟩ := h2
    exact ⟨o2, (b.2 t hn).trans k1, k2⟩
  · exact next_tup_end hA h1 h2 (Array.getElem?_eq_none (Nat.le_refl _)) q
theorem Draws_tend (hA : A.handled = none) (it t : Addr) (items : Array Value) (n : Nat) (hx : items[n]? = none) : Draws prog w A it [it, t] n (fun _ _ => True) fun i h => (h.IsTupleIter it t i ∧ h.IsTuple t items) ∧ i = n := by
  refine ⟨fun i h ⟨⟨⟨o, g, _⟩, _⟩, _⟩ => ⟨o, g⟩, fun i h h' ⟨⟨⟨o, g1, g2, g3⟩, o2, k1, k2⟩, e⟩ K => ⟨⟨⟨o, K it (by simp) o g1, g2, g3⟩, o2, K t (by simp) o2 k1, k2⟩, e⟩, fun i s Q E hi ⟨_, e⟩ q => by omega, fun s Q E ⟨⟨h1, h2⟩, _⟩ q => next_tup_end hA h1 h2 hx q⟩
theorem pyNext_enum_itemD {e : Addr} {fp : List Addr} {n : Nat} {P : Nat → Value → Prop} {St : Nat → Heap → Prop} {old : Value} {Q : Option Value → Shared → Prop}
    (D : Draws prog w A.in1 it fp n P St) (he : IsEnum s.heap e it (i : Nat) old) (hs : St i s.heap) (hi : i < n) (hn : e ≠ it) (hf : ¬ e ∈ fp)
    (hQ : ∀ (x : Value) (h' : Heap) (tk : Tok), P i x → IsEnumOut h' e it ((i : Nat) + 1) x s.heap.objs.size → St (i + 1) h' → h'.get? s.heap.objs.size = some { cls := .type "tuple", data := .seq #[.int (i : Nat) tk, x] } → h'.objs.size = s.heap.objs.size + 1 → (∀ (b : Addr) (o : Obj), b ≠ e → b ≠ it → s.heap.get? b = some o → h'.get? b = some o) → Q (some (.ref s.heap.objs.size)) { heap := h', gens := s.gens, drawn := s.drawn, toks := tk + 1, os := s.os }) :
    wpAny (model prog w) A (pyNext (.ref e)) Q E s := by
  unfold pyNext
  have ti : s.TypeIs (.ref e) "enumerate" := ⟨_, he, rfl⟩
  refine wpAny_bind (wpAny_attempt (wpAny_callSpecial?_slot ti F.slot_enumerate_next ?_))
  refine wpAny_call_entry F.slot_enumerate_next ti F.entry_enumerate_next ?_ (F.args_enumerate_next_1 _)
  exact enumerate_next_itemD D he hs hi hn hf fun x h' tk a b c d f g => wpAny_pure (hQ x h' tk a b c d f g)
theorem wp_ctt {M : Model} {Q : Bool → Shared → Prop} {cls : Value} (h : ∀ b, Q b s) : wpAny M A (Builtin.SmallTypes.calledThroughType cls) Q E s := by
  unfold Builtin.SmallTypes.calledThroughType
  exact wpAny_bind (wpAny_stack_any fun st => wpAny_pure (h _))
theorem meets_enum_newT (t : Addr) (items : Array Value) : Meets (Builtin.«enumerate.__new__» { pos := [.type "enumerate", .ref t] }) fun _ R s => s.heap.IsTuple t items ∧
    R (.ok (.ret (.ref (s.heap.push { cls := .type "tuple_iterator", data := .fields #[.ref t, .int 0 0] }).objs.size)))
      { heap := (s.heap.push { cls := .type "tuple_iterator", data := .fields #[.ref t, .int 0 0] }).push { cls := .type "enumerate", data := .fields #[.none, .bool false, .ref s.heap.objs.size, rawInt 0, .none, .none] }, gens := s.gens, drawn := s.drawn, toks := s.toks, os := s.os } := by
  refine Meets.of_wp fun prog w A R s h => ?_
  obtain ⟨ht, hR⟩ := h
  unfold Builtin.«enumerate.__new__»
  have fin : ∀ E : Value → Shared → Prop, wpAny (model prog w) A.in1 (pyIter (.ref t) >>= fun x => Builtin.SmallTypes.newRecord (.type "enumerate") (Builtin.SmallTypes.ownedTupleFields ++ [x, rawInt 0, .none, .none]) >>= ret) (fun fin s' => ∃ v, fin = Fin.done (Flow.ret v) ∧ R (Except.ok (Flow.ret v)) s') E s := fun E => by
    refine wpAny_bind (wpAny_pyIter_tuple ht ?_)
    refine wpAny_bind (wpAny_newObj_type (T := "enumerate") (data := .fields #[.none, .bool false, .ref s.heap.objs.size, rawInt 0, .none, .none]) (dict := none) ?_ ?_)
    · exact wpAny_pure ⟨_, rfl, hR⟩
    · simp [sizeOk, sizeLine_eq]
  refine wpAny_bind (wpAny_bind (wpAny_pure (a := true) ?_))
  refine wp_else (by decide) ?_
  refine wpAny_bind (wpAny_of_eq sub_enumerate ?_)
  refine wp_else (by decide) ?_
  refine wpAny_pure ?_
  refine wpAny_ite_true (by decide) ?_
  refine wpAny_bind (wp_ctt fun b => ?_)
  cases b with
  | true => exact wpAny_ite_true rfl (wpAny_bind (wpAny_pure (a := (Value.ref t, none)) (fin _)))
  | false => exact wpAny_ite_false rfl (wpAny_bind (wpAny_pure (a := (Value.ref t, none)) (fin _)))
theorem call_enumT {items : Array Value} {Q : Value → Shared → Prop} (ht : s.heap.IsTuple t items)
    (hQ : ∀ h' : Heap, IsEnum h' (s.heap.objs.size + 1) s.heap.objs.size 0 .none → h'.IsTupleIter s.heap.objs.size t 0 → h'.objs.size = s.heap.objs.size + 2 → (∀ (b : Addr) (o : Obj), s.heap.get? b = some o → h'.get? b = some o) → Q (.ref (s.heap.objs.size + 1)) { heap := h', gens := s.gens, drawn := s.drawn, toks := s.toks, os := s.os }) :
    wpAny (model prog w) A (call (.type "enumerate") [.ref t]) Q E s := by
  refine callType_new F.called_enumerate (by decide) (F.typeCall_enumerate_1 _) (F.newCall_enumerate_1 _) (fun _ => F.args_object_init_2 _ _) F.entry_enumerate_new (meets_enum_newT t items) ⟨ht, ?_⟩
  have hs : (s.heap.push { cls := .type "tuple_iterator", data := .fields #[.ref t, .int 0 0] }).objs.size = s.heap.objs.size + 1 := Heap.size_push _ _
  have g1 := Heap.get?_push_size (s.heap.push { cls := .type "tuple_iterator", data := .fields #[.ref t, .int 0 0] }) (o := { cls := .type "enumerate", data := .fields #[.none, .bool false, .ref s.heap.objs.size, rawInt 0, .none, .none] }) rfl
  have g2 := Heap.get?_push_size s.heap (o := { cls := .type "tuple_iterator", data := .fields #[.ref t, .int 0 0] }) rfl
  refine ⟨⟨_, g1, rfl⟩, ?_⟩
  rw [hs]
  refine hQ _ ?_ ⟨_, Heap.get?_push_of_some _ g2, rfl, rfl⟩ ?_ fun b o h => Heap.get?_push_of_some _ (Heap.get?_push_of_some _ h)
  · rw [hs] at g1; exact g1
  · rw [Heap.size_push, hs]
end
open L2
def IteT : PySem.W.Frag → Addr → It := fun K a =>
  { go := fun i H => ∃ xs x, SqT K H a xs ∧ xs[i]? = some x
    yld := fun i H v H' => ∃ T x, v = V.ref T ∧ H T = none ∧ H' = upd H T (HO.tup [V.int (i : Nat), x]) ∧ ∀ xs, SqT K H a xs → xs[i]? = some x
    stop := fun i H => ∃ xs, SqT K H a xs ∧ xs.length ≤ i }
theorem tup_apart {h : Heap} {a it : Addr} {items : Array Value} {i : Nat} (h1 : h.IsTuple a items) (h2 : h.IsTupleIter it a i) : a ≠ it := fun e => by
  subst e
  obtain ⟨o, g1, g2, _⟩ := h1
  obtain ⟨o2, k1, k2, _⟩ := h2
  rw [g1] at k1; cases k1
  injection g2.symm.trans k2 with z
  exact absurd z (by decide)
theorem tup_apart2 {h : Heap} {a e it : Addr} {items : Array Value} {i : Int} {old : Value} (h1 : h.IsTuple a items) (h2 : IsEnum h e it i old) : a ≠ e := fun z => by
  subst z
  obtain ⟨o, g1, g2, _⟩ := h1
  have h2 : h.get? a = _ := h2
  rw [g1] at h2; cases h2
  injection g2 with z
  exact absurd z (by decide)
theorem turn_enumT {P : Program} {w : World} {K : PySem.W.Frag} {elts : List Expr} {kk : Nat} {tpos : Pos} (a e it : Addr) : Turn P w K (.Tuple elts kk tpos) (IteT K a) [e, it] e fun i h => (∃ old, IsEnum h e it (i : Nat) old) ∧ h.IsTupleIter it a i ∧ e ≠ it := by
  refine ⟨by simp, fun i h ⟨⟨old, h1⟩, h2, h3⟩ b hb => ?_, fun i h h' ⟨⟨old, h1⟩, h2, h3⟩ kp => ⟨⟨old, kp e (by simp) _ h1⟩, h2.at (kp it (by simp)), h3⟩, ?_, ?_, fun A i s Q E ⟨⟨old, h1⟩, _⟩ q => wpAny_pyIter_enum h1 q⟩
  · rcases List.mem_cons.mp hb with rfl | hb
    · exact ⟨_, h1, fun v z => by cases z⟩
    · rw [List.mem_singleton.mp hb]
      obtain ⟨o, g1, g2, g3⟩ := h2
      exact ⟨o, g1, fun v z => by rw [g3] at z; cases z⟩
  · rintro X rfl rfl rfl hc i pins s σ H E I fp ⟨⟨old, he⟩, hit, hne⟩ ⟨xs, x, hx, hxi⟩
    obtain ⟨its, hv, ht, hz⟩ := I.tuple hx
    obtain ⟨u, hu, ru⟩ := hv.get hxi
    have ht' : s.heap.IsTuple a its.toArray := ht
    have an := tup_apart ht' hit
    have ae := tup_apart2 ht' he
    have hi : i < its.toArray.size := by
      obtain ⟨hh, _⟩ := List.getElem?_eq_some_iff.mp hu
      rw [List.size_toArray]; exact hh
    refine pyNext_enum_itemD (Draws_tuple (A := X.A.in1) (I.ok.hd hc) it a an its.toArray) he ⟨hit, ht'⟩ hi hne (by simp [hne, ae.symm]) fun x' h' tk px ho st hT sz kp => ⟨_, rfl, ?_⟩
    refine wpAny_letOwnedTupleGo_enum ho fun h'' he'' sb => ?_
    have eu : x' = u := by
      have : its.toArray[i]? = some u := by rw [List.getElem?_toArray]; exact hu
      exact Option.some.inj (px.symm.trans this)
    subst eu
    have lt1 := Heap.lt_size he
    have hT2 : h''.get? s.heap.objs.size = some { cls := .type "tuple", data := .seq #[.int (i : Nat) tk, x'] } := (sb.2 _ (Nat.ne_of_gt lt1)).trans hT
    obtain ⟨oi, gi, _⟩ := hit
    have lt2 := Heap.lt_size gi
    refine ⟨.ref s.heap.objs.size, upd H s.heap.objs.size (.tup [.int (i : Nat), x]), I.turnedNew (ch := [e, it]) (fun b o hb g => ?_) fp (Nat.le_refl _) ?_, rfl, ⟨_, x, rfl, I.hok.fresh (Nat.le_refl _), rfl, fun ys hy => ?_⟩, ⟨⟨_, he''⟩, ?_, hne⟩, fun b hb => ?_⟩
    · have b1 : b ≠ e := fun z => hb (by simp [z])
      have b2 : b ≠ it := fun z => hb (by simp [z])
      exact (sb.2 b b1).trans (kp b o b1 b2 g)
    · refine ⟨?_, [.int (i : Nat) tk, x'], .cons ⟨tk, rfl⟩ (.cons ru .nil), ⟨_, hT2, rfl, _, rfl⟩⟩
      rw [sizeLine_eq]; exact Nat.le_of_ble_eq_true rfl
    · rw [I.tuple_inj hy hx]; exact hxi
    · exact st.1.at fun o g => (sb.2 it hne.symm).trans g
    · rcases List.mem_cons.mp hb with rfl | hb
      · rw [upd_ne (Nat.ne_of_lt lt1)]; exact (fp b (by simp)).1
      · rw [List.mem_singleton.mp hb, upd_ne (Nat.ne_of_lt lt2)]; exact (fp it (by simp)).1
  · rintro X rfl rfl rfl hc i pins s σ H E I fp ⟨⟨old, he⟩, hit, hne⟩ ⟨xs, hx, hxi⟩
    obtain ⟨its, hv, ht, hz⟩ := I.tuple hx
    have ht' : s.heap.IsTuple a its.toArray := ht
    have hi : its.toArray[i]? = none := by
      rw [List.getElem?_toArray]
      refine List.getElem?_eq_none ?_
      rw [← hv.length]; exact hxi
    refine wpAny_pyNext_enum_endD (Draws_tend (A := X.A.in1) (I.ok.hd hc) it a its.toArray i hi) he ⟨⟨hit, ht'⟩, rfl⟩ fun h' ext => ⟨rfl, ?_⟩
    have f := fp it (by simp)
    exact I.turned ext f.1 f.2.1 f.2.2.2.1 f.2.2.2.2.1 f.2.2.2.2.2
/-- enumerate(a tuple) -/
def iEnumT : PySem.W.Frag → TA → TI := fun K ta σ H R => ta σ H fun vs H1 => ∃ a xs, vs = [V.ref a] ∧ SqT K H1 a xs ∧ R (IteT K a) H1
theorem pi_enumT {X : Cx} {e : Expr} {ta : TA} {p pos tpos : Pos} {elts : List Expr} {kk : Nat} (hg : Gl X "enumerate") (hm : X.mg "enumerate" = none) (ha : PA X [e] ta)
    (h1 : starEach [e] X.env = [(false, eval e X.env)] := by rfl) : PI X (.Tuple elts kk tpos) (.Call (.Name "enumerate" p) [e] [] pos) (iEnumT X.K ta) := ⟨fun pins s σ H R I h => by
  refine Call_ (ld_blt I hg hm boot_enumerate (callWith_type1 (thn (ha.run pos pins s σ H _ I h) fun us s1 q => ?_) h1))
  obtain ⟨vs, H1, I1, hv, a, xs, rfl, hx, r⟩ := q
  obtain ⟨u, rfl, hu⟩ : ∃ u, us = [u] ∧ RelV (.ref a) u := by
    cases hv with
    | cons a b => cases b; exact ⟨_, rfl, a⟩
  have hu : u = .ref a := hu
  subst hu
  obtain ⟨its, hvv, ht, hz⟩ := I1.tuple hx
  refine call_enumT (items := its.toArray) ht fun h' he hit hsz kp => ?_
  refine wpAny_pyIter_enum he ?_
  have I2 := I1.kept (t' := s1.toks) kp
  refine ⟨_, [s1.heap.objs.size + 1, s1.heap.objs.size], _, IteT X.K a, H1, rfl, I2, turn_enumT a _ _, ⟨⟨_, he⟩, hit, Nat.succ_ne_self _⟩, fun b hb => ?_, r⟩
  rcases List.mem_cons.mp hb with rfl | hb
  · exact (I1.fpOk (Nat.le_succ _) (I1.hok.fresh (Nat.le_succ _)))
  · rw [List.mem_singleton.mp hb]
    exact I1.fpOk (Nat.le_refl _) (I1.hok.fresh (Nat.le_refl _))⟩
end DW

/-! walks over enumerate(a tuple) and zip of two lists -/
namespace DW
open PySem PySem.Spec PyProof.Rows L2
def zpD (ds es : List PyData) : List PyData := (ds.zip es).map fun p => .tuple [p.1, p.2]
theorem zpD_len (ds es : List PyData) : (zpD ds es).length = min ds.length es.length := by unfold zpD; rw [List.length_map, List.length_zip]
theorem zpD_get {ds es : List PyData} {i : Nat} {e : PyData} (h : (zpD ds es)[i]? = some e) : ∃ a b, ds[i]? = some a ∧ es[i]? = some b ∧ e = .tuple [a, b] := by
  unfold zpD at h
  rw [List.getElem?_map] at h
  cases z : (ds.zip es)[i]? with
  | none => rw [z] at h; cases h
  | some p =>
    rw [z] at h
    obtain ⟨h1, h2⟩ := List.getElem?_zip_eq_some.mp z
    exact ⟨p.1, p.2, h1, h2, (Option.some.inj h).symm⟩
section
variable {g : Gd} {G : List Sl} {te : TE} {ds es : List PyData}
theorem it_zip {ta : TA} (h : A g ta G [.list ds, .list es]) : IT g (iZip g.K ta) G (zpD ds es) := fun σ F H hh R r => h σ F H hh _ fun vs F1 H1 s1 d1 => by
  cases d1 with
  | cons p t =>
  cases t with
  | cons q t =>
  cases t
  obtain ⟨a, xs, rfl, h1, h2⟩ := dp_sq p
  obtain ⟨b, ys, rfl, k1, k2⟩ := dp_sq q
  refine ⟨a, b, xs, ys, rfl, s1.i.ex.l h1, s1.i.ex.l k1, r _ F1 H1 s1 ⟨fun i F2 H2 e sb hi => ?_, fun F2 H2 e sb => ?_, fun i F2 H2 x H' d e sb hd hy => ?_⟩⟩
  · rw [zpD_len] at hi
    have hx : i < xs.length := by rw [dps_len h2]; omega
    have hy : i < ys.length := by rw [dps_len k2]; omega
    exact ⟨xs, ys, xs[i], ys[i], sb.ex.l (e.l h1), sb.ex.l (e.l k1), List.getElem?_eq_getElem hx, List.getElem?_eq_getElem hy⟩
  · refine ⟨xs, ys, sb.ex.l (e.l h1), sb.ex.l (e.l k1), ?_⟩
    rw [dps_len h2, dps_len k2, zpD_len]
    omega
  · obtain ⟨T, u, v, rfl, hT, rfl, q1, q2⟩ := hy
    obtain ⟨a', b', ha, hb, rfl⟩ := zpD_get hd
    obtain ⟨u', e1, e2⟩ := dps_get h2 ha
    obtain ⟨v', f1, f2⟩ := dps_get k2 hb
    obtain rfl : u' = u := Option.some.inj (e1.symm.trans (q1 xs (sb.ex.l (e.l h1))))
    obtain rfl : v' = v := Option.some.inj (f1.symm.trans (q2 ys (sb.ex.l (e.l k1))))
    have st := Stp.new (o := .tup [u', v']) sb hT fun _ z => by cases z
    refine ⟨_, st, ?_⟩
    exact .tup (.inl (.inl upd_same)) (.cons (st.f.dp _ u' (e.dp _ u' e2)) (.cons (st.f.dp _ v' (e.dp _ v' f2)) .nil))
theorem it_enumT (h : E g te G (.tuple ds)) : IT g (iEnumT g.K (tCons te tNil)) G (enD 0 ds) := fun σ F H hh R r => h σ F H hh _ fun v F1 H1 s1 d1 => by
  obtain ⟨a, vs, rfl, h1, h2⟩ := dp_tq d1
  refine ⟨a, vs, rfl, s1.i.ex.t h1, r _ F1 H1 s1 ⟨fun i F2 H2 e sb hi => ?_, fun F2 H2 e sb => ?_, fun i F2 H2 x H' d e sb hd hy => ?_⟩⟩
  · rw [enD_len] at hi
    have hi' : i < vs.length := by rw [dps_len h2]; exact hi
    exact ⟨vs, vs[i], sb.ex.t (e.t h1), List.getElem?_eq_getElem hi'⟩
  · exact ⟨vs, sb.ex.t (e.t h1), by rw [dps_len h2, enD_len]; exact Nat.le_refl _⟩
  · obtain ⟨T, y, rfl, hT, rfl, q⟩ := hy
    obtain ⟨d', hd', rfl⟩ := enD_get 0 ds i d hd
    obtain ⟨w, e1, e2⟩ := dps_get h2 hd'
    obtain rfl : w = y := Option.some.inj (e1.symm.trans (q vs (sb.ex.t (e.t h1))))
    have st := Stp.new (o := .tup [.int ((i : Nat) : Int), w]) sb hT fun _ z => by cases z
    refine ⟨_, st, ?_⟩
    rw [Nat.zero_add]
    exact .tup (.inl (.inl upd_same)) (.cons (.int _) (.cons (st.f.dp _ w (e.dp _ w e2)) .nil))
end
end DW

/-! min of a list of ints (default=None too), in of any data, list(range(..)), reversed -/
namespace DW
open PySem PySem.Spec PyProof.Rows L2
/-- the least of some ints -/
def minI (x : Int) (xs : List Int) : Int := xs.foldl (fun a y => if y < a then y else a) x
def minO : List Int → Option Int
  | [] => none
  | x :: xs => some (minI x xs)
theorem minI_le : ∀ (xs : List Int) (x : Int), minI x xs ≤ x ∧ ∀ y ∈ xs, minI x xs ≤ y
  | [], x => ⟨Int.le_refl _, fun y h => by cases h⟩
  | z :: xs, x => by
    have h := minI_le xs (if z < x then z else x)
    have e : minI x (z :: xs) = minI (if z < x then z else x) xs := rfl
    rw [e]
    refine ⟨?_, fun y hy => ?_⟩
    · have := h.1; split at this <;> (rename_i q; split <;> omega)
    · rcases List.mem_cons.mp hy with rfl | hy
      · have := h.1; split at this <;> (rename_i q; split <;> omega)
      · exact h.2 y hy
theorem minI_mem : ∀ (xs : List Int) (x : Int), minI x xs ∈ x :: xs
  | [], x => List.mem_cons_self
  | z :: xs, x => by
    have h := minI_mem xs (if z < x then z else x)
    have e : minI x (z :: xs) = minI (if z < x then z else x) xs := rfl
    rw [e]
    rcases List.mem_cons.mp h with h | h
    · rw [h]
      split
      · exact List.mem_cons_of_mem _ List.mem_cons_self
      · exact List.mem_cons_self
    · exact List.mem_cons_of_mem _ (List.mem_cons_of_mem _ h)
theorem minI_uniq {xs : List Int} {x m : Int} (h1 : m ∈ x :: xs) (h2 : ∀ y ∈ x :: xs, m ≤ y) : m = minI x xs := by
  have a := h2 _ (minI_mem xs x)
  have b : minI x xs ≤ m := by
    rcases List.mem_cons.mp h1 with rfl | h
    · exact (minI_le xs m).1
    · exact (minI_le xs x).2 m h
  omega
/-! min(xs) -/
theorem uMin1 {X : Cx} (K : PySem.W.Frag) (hc : X.calm = true) (h : X.K = K := by rfl) : CallR X (.builtin "min") (rMin K) := h ▸ cr_min hc
section
variable {g : Gd} {G : List Sl} {te ta tb : TE} {d x y : PyData} {ds es : List PyData} {i : Nat}
theorem dps_vints {K : PySem.W.Frag} {F : Hp} : ∀ {vs : List V} {ns : List Int}, DpAll K F vs (ns.map .int) → vs = ns.map V.int
  | _, [], h => by cases h; rfl
  | _, n :: ns, h => by
    cases h with
    | cons a t => cases a; rw [dps_vints t]; rfl
theorem minL_i {n : Int} {ns : List Int} : C1 g (rMin g.K) [.list ((n :: ns).map .int)] (.int (minI n ns)) := fun vs H h Q q => by
  obtain ⟨v, rfl, hw⟩ := ab_one h
  obtain ⟨a, ws, rfl, h1, h2⟩ := dp_sq hw
  have e := dps_vints h2
  subst e
  refine ⟨a, n :: ns, rfl, h1, by simp, fun m hm hle => ?_⟩
  rw [minI_uniq hm hle]
  exact q _ (.int _)
end
/-! min(xs, default=None) -/
def rMinD (K : PySem.W.Frag) : List V → List V → Hp → VK → Prop := fun vs zs H Q => ∃ (a : Addr) (ns : List Int), vs = [V.ref a] ∧ zs = [V.non] ∧ SqL K H a (ns.map V.int) ∧ Q (match minO ns with | some m => .int m | none => .non) H
end DW
namespace DW
open PySem PySem.Spec PyProof.Rows L2
theorem minI_fold : ∀ (ns : List Int) (n : Int), ns.foldl min n = minI n ns
  | [], _ => rfl
  | k :: ns, n => by
    show ns.foldl min (min n k) = minI (if k < n then k else n) ns
    have e : min n k = if k < n then k else n := by split <;> omega
    rw [e]; exact minI_fold ns _
theorem deep_ints : ∀ ns : List Int, PyData.depthAll (ns.map .int) = 0
  | [] => rfl
  | _ :: ns => by show max 0 (PyData.depthAll (ns.map .int)) = 0; rw [deep_ints ns]; rfl
theorem alike_of_ints (ns : List Int) : PySem.W.AlikeAll (ns.map PyData.int) := by
  refine ⟨fun x hx y hy => ?_, fun x hx => ?_⟩
  · obtain ⟨i, _, rfl⟩ := List.mem_map.mp hx
    obtain ⟨j, _, rfl⟩ := List.mem_map.mp hy
    rfl
  · obtain ⟨i, _, rfl⟩ := List.mem_map.mp hx
    intro z; cases z
theorem dps_of_ints {K : PySem.W.Frag} {H : Hp} : ∀ ns : List Int, DpAll K H (ns.map V.int) (ns.map .int)
  | [] => .nil
  | n :: ns => .cons (.int n) (dps_of_ints ns)
theorem cr_minD {X : Cx} (hc : X.calm = true) (hu : X.A.units + 64 < cLine) : CallRK X (.builtin "min") [Str.ofString "default"] (rMinD X.K) := by
  intro pins s σ H vs zs us ws Q I r rz h
  obtain ⟨a, ns, rfl, rfl, hs, q⟩ := h
  obtain rfl := Vals.ref1 r
  obtain ⟨w1, rfl, e1⟩ := vals1 rz
  obtain rfl : w1 = Value.none := e1
  obtain ⟨its, rv, hl, _⟩ := I.list hs
  obtain ⟨as, hr⟩ := Dp.readsAll I (ns.map .int) _ its (dps_of_ints ns) rv
  refine PySem.W.min_list_default (xs := ns.map .int) (vs := its.toArray) (I.ok.hd hc) hl.isList (by simpa using hr) (alike_of_ints ns) (by rw [deep_ints]; omega) (fun e h' tk hk => ?_) fun y ys i v h' tk bs e hv hrd hk => ?_
  · have e' : ns = [] := by cases ns with
      | nil => rfl
      | cons n ns => cases e
    subst e'
    exact ⟨.non, H, I.kept hk, rfl, q⟩
  · cases ns with
    | nil => cases e
    | cons n ns =>
      cases e
      rw [PySem.W.minD_ints, minI_fold] at hrd
      cases hrd
      exact ⟨.int _, H, I.kept hk, ⟨_, rfl⟩, q⟩
theorem uMinDK {X : Cx} (K : PySem.W.Frag) (hc : X.calm = true) (hu : X.A.units + 64 < cLine) (h : X.K = K := by rfl) : CallRK X (.builtin "min") [Str.ofString "default"] (rMinD K) := h ▸ cr_minD hc hu
section
variable {g : Gd} {G : List Sl} {te ta tb : TE} {d x y : PyData} {ds es : List PyData} {i : Nat}
theorem e_minD {ns : List Int} (h : B g ta G (.list (ns.map .int))) : E g (tCKw (rMinD g.K) (tCons ta tNil) (tCons (tC .non) tNil)) G (oD (minO ns)) := fun σ F H hh Q q => h σ F H hh _ fun v F1 H1 s1 d1 => by
  obtain ⟨a, vs, rfl, h1, h2⟩ := dp_sq d1
  have e := dps_vints h2
  subst e
  refine ⟨a, ns, rfl, rfl, h1, ?_⟩
  generalize minO ns = o at q ⊢
  cases o with
  | none => exact q V.non F1 H1 s1 .non
  | some m => exact q (V.int m) F1 H1 s1 (.int m)
/-! in, any data -/
def rInA (K : PySem.W.Frag) : R2 := fun x y H Q => ∃ d xs, (Dp K H y (.list xs) ∨ Dp K H y (.tuple xs)) ∧ Dp K H x d ∧ PyData.plainAll xs = true ∧ d.plain = true ∧ PyData.depthAll xs ≤ 50 ∧ Q (.bl (xs.any fun y => PyData.eqv y d)) H
def rNiA (K : PySem.W.Frag) : R2 := fun x y H Q => ∃ d xs, (Dp K H y (.list xs) ∨ Dp K H y (.tuple xs)) ∧ Dp K H x d ∧ PyData.plainAll xs = true ∧ d.plain = true ∧ PyData.depthAll xs ≤ 50 ∧ Q (.bl (!xs.any fun y => PyData.eqv y d)) H
theorem op_inA {X : Cx} (hu : X.A.units + 64 < cLine) : OpR X (compareOp .In) (rInA X.K) := by
  intro pins s σ H x y v u Q I rx ry h
  obtain ⟨d, xs, hy, hx, p1, p2, dp, q⟩ := h
  obtain ⟨as, r1⟩ := Dp.reads I d x v hx rx
  rcases hy with hy | hy
  · obtain ⟨bs, r2⟩ := Dp.reads I _ y u hy ry
    exact PySem.SeqAt.in_list_data r2 r1 p1 p2 (by omega) ⟨.bl _, H, I, rfl, q⟩
  · obtain ⟨bs, r2⟩ := Dp.reads I _ y u hy ry
    exact PySem.SeqAt.in_tuple_data r2 r1 p1 p2 (by omega) ⟨.bl _, H, I, rfl, q⟩
theorem op_niA {X : Cx} (hu : X.A.units + 64 < cLine) : OpR X (compareOp .NotIn) (rNiA X.K) := by
  intro pins s σ H x y v u Q I rx ry h
  obtain ⟨d, xs, hy, hx, p1, p2, dp, q⟩ := h
  obtain ⟨as, r1⟩ := Dp.reads I d x v hx rx
  rcases hy with hy | hy
  · obtain ⟨bs, r2⟩ := Dp.reads I _ y u hy ry
    exact PySem.SeqAt.notIn_list_data r2 r1 p1 p2 (by omega) ⟨.bl _, H, I, rfl, q⟩
  · obtain ⟨bs, r2⟩ := Dp.reads I _ y u hy ry
    exact PySem.SeqAt.notIn_tuple_data r2 r1 p1 p2 (by omega) ⟨.bl _, H, I, rfl, q⟩
theorem uInAK {X : Cx} (K : PySem.W.Frag) (hu : X.A.units + 64 < cLine) (h : X.K = K := by rfl) : OpR X (compareOp .In) (rInA K) := h ▸ op_inA hu
theorem uNiAK {X : Cx} (K : PySem.W.Frag) (hu : X.A.units + 64 < cLine) (h : X.K = K := by rfl) : OpR X (compareOp .NotIn) (rNiA K) := h ▸ op_niA hu
def memD (x : PyData) (ds : List PyData) : Bool := ds.any fun y => PyData.eqv y x
theorem inA_l (hd : PyData.plainAll ds = true) (hx : x.plain = true) (hz : PyData.depthAll ds ≤ 50) : RB g (rInA g.K) x (.list ds) (.bool (memD x ds)) := fun u v H hu hv Q q => ⟨x, ds, .inl hv, hu, hd, hx, hz, q _ (.bl _)⟩
theorem inA_t (hd : PyData.plainAll ds = true) (hx : x.plain = true) (hz : PyData.depthAll ds ≤ 50) : RB g (rInA g.K) x (.tuple ds) (.bool (memD x ds)) := fun u v H hu hv Q q => ⟨x, ds, .inr hv, hu, hd, hx, hz, q _ (.bl _)⟩
theorem niA_l (hd : PyData.plainAll ds = true) (hx : x.plain = true) (hz : PyData.depthAll ds ≤ 50) : RB g (rNiA g.K) x (.list ds) (.bool (!memD x ds)) := fun u v H hu hv Q q => ⟨x, ds, .inl hv, hu, hd, hx, hz, q _ (.bl _)⟩
theorem niA_t (hd : PyData.plainAll ds = true) (hx : x.plain = true) (hz : PyData.depthAll ds ≤ 50) : RB g (rNiA g.K) x (.tuple ds) (.bool (!memD x ds)) := fun u v H hu hv Q q => ⟨x, ds, .inr hv, hu, hd, hx, hz, q _ (.bl _)⟩
/-! list(range(a)), list(range(a, b)) -/
theorem dps_rg {K : PySem.W.Frag} {F : Hp} (a b : Int) : DpAll K F (rgV a b) (rngD a (b - a).toNat) := by
  unfold rgV rngD
  generalize List.range (b - a).toNat = l
  induction l with
  | nil => exact .nil
  | cons k l ih => exact .cons (.int _) ih
theorem el_rg1 {n : Int} (h : E g ta G (.int n)) (h1 : n ≤ 100000) (h0 : -100000 ≤ n) : EL g (tLstRg (tRg1 ta)) G (rngD 0 n.toNat) := fun σ F H hh Q q => h σ F H hh _ fun v F1 H1 s1 d1 => by
  cases d1
  refine ⟨n, rfl, ⟨by omega, by omega, by omega, by omega, by omega⟩, fun p hp => ?_⟩
  have := dps_rg (K := g.K) (F := F1) 0 n
  rw [show n - 0 = n by omega] at this
  exact q p _ F1 _ (s1.trans (Stp.mine s1.i hp)) (old_free s1 hp) (s1.i.free hp) upd_same this
theorem el_rg2 {lo hi : Int} (h : E g ta G (.int lo)) (h' : E g tb G (.int hi)) (b1 : -1000000000000000 ≤ lo) (b2 : lo ≤ 1000000000000000) (b3 : -1000000000000000 ≤ hi) (b4 : hi ≤ 1000000000000000) (hn : hi - lo ≤ 100000) : EL g (tLstRg (tRg2 ta tb)) G (rngD lo (hi - lo).toNat) := fun σ F H hh Q q => h σ F H hh _ fun v F1 H1 s1 d1 => h' σ F1 H1 (hh.mono s1) _ fun v' F2 H2 s2 d2 => by
  cases d1; cases d2
  refine ⟨lo, hi, rfl, rfl, ⟨by omega, by omega, by omega, by omega, by omega⟩, fun p hp => ?_⟩
  exact q p _ F2 _ ((s1.trans s2).trans (Stp.mine s2.i hp)) (old_free (s1.trans s2) hp) (s2.i.free hp) upd_same (dps_rg lo hi)
end
/-! reversed of a list or a tuple -/
section
variable {g : Gd} {G : List Sl} {te : TE} {ds : List PyData}
theorem rev_get {α : Type} {l : List α} {i : Nat} {x : α} (h : l.reverse[i]? = some x) : i < l.length ∧ l[l.length - 1 - i]? = some x := by
  have hi : i < l.reverse.length := (List.getElem?_eq_some_iff.mp h).1
  rw [List.length_reverse] at hi
  rw [List.getElem?_reverse hi] at h
  exact ⟨hi, h⟩
theorem it_revT (h : E g te G (.tuple ds)) : IT g (RT.iRevA g.K te) G ds.reverse := fun σ F H hh R r => h σ F H hh _ fun v F1 H1 s1 d1 => by
  obtain ⟨a, vs, rfl, h1, h2⟩ := dp_tq d1
  have ln := dps_len h2
  refine ⟨a, vs, rfl, .inr ⟨s1.i.ex.t h1, r _ F1 H1 s1 ⟨fun i F2 H2 e sb hi => ?_, fun F2 H2 e sb => ?_, fun i F2 H2 x H' d e sb hd hy => ?_⟩⟩⟩
  · rw [List.length_reverse] at hi
    have hi' : vs.length - 1 - i < vs.length := by omega
    exact ⟨by omega, vs, vs[vs.length - 1 - i], sb.ex.t (e.t h1), List.getElem?_eq_getElem hi'⟩
  · show vs.length ≤ _
    rw [List.length_reverse]; omega
  · obtain ⟨rfl, q⟩ := hy
    obtain ⟨hi, hd'⟩ := rev_get hd
    obtain ⟨w, e1, e2⟩ := dps_get h2 hd'
    have e3 := q vs (sb.ex.t (e.t h1))
    rw [ln, e1] at e3; cases e3
    exact ⟨F2, Stp.refl sb, e.dp d _ e2⟩
theorem it_revL (h : E g te G (.list ds)) : IT g (RT.iRevA g.K te) G ds.reverse := fun σ F H hh R r => h σ F H hh _ fun v F1 H1 s1 d1 => by
  obtain ⟨a, vs, rfl, h1, h2⟩ := dp_sq d1
  have ln := dps_len h2
  refine ⟨a, vs, rfl, .inl ⟨s1.i.ex.l h1, r _ F1 H1 s1 ⟨fun i F2 H2 e sb hi => ?_, fun F2 H2 e sb => ?_, fun i F2 H2 x H' d e sb hd hy => ?_⟩⟩⟩
  · rw [List.length_reverse] at hi
    have hi' : vs.length - 1 - i < vs.length := by omega
    exact ⟨by omega, vs, vs[vs.length - 1 - i], sb.ex.l (e.l h1), List.getElem?_eq_getElem hi'⟩
  · show vs.length ≤ _
    rw [List.length_reverse]; omega
  · obtain ⟨rfl, q⟩ := hy
    obtain ⟨hi, hd'⟩ := rev_get hd
    obtain ⟨w, e1, e2⟩ := dps_get h2 hd'
    have e3 := q vs (sb.ex.l (e.l h1))
    rw [ln, e1] at e3; cases e3
    exact ⟨F2, Stp.refl sb, e.dp d _ e2⟩
end
end DW
/-! == of any data, by plain -/
namespace DW
open PySem PySem.Spec PyProof.Rows L2
/-- no dict in it, not deeper than n -/
structure Pl (n : Nat) (d : PyData) : Prop where
  p : d.plain = true
  d : d.depth ≤ n
structure PlA (n : Nat) (ds : List PyData) : Prop where
  p : PyData.plainAll ds = true
  d : PyData.depthAll ds ≤ n
section
variable {n m : Nat} {d x y : PyData} {ds es : List PyData}
theorem pl_int {i : Int} : Pl n (.int i) := ⟨rfl, Nat.zero_le _⟩
theorem pl_str {s : Str} : Pl n (.str s) := ⟨rfl, Nat.zero_le _⟩
theorem pl_bl {b : Bool} : Pl n (.bool b) := ⟨rfl, Nat.zero_le _⟩
theorem pl_non : Pl n .none := ⟨rfl, Nat.zero_le _⟩
theorem pla_nil : PlA n [] := ⟨rfl, Nat.zero_le _⟩
theorem pla_cons (h : Pl n d) (t : PlA n ds) : PlA n (d :: ds) := ⟨by rw [PyData.plainAll, h.p, t.p]; rfl, Nat.max_le.mpr ⟨h.d, t.d⟩⟩
theorem pla_of : ∀ {ds : List PyData}, (∀ x ∈ ds, Pl n x) → PlA n ds
  | [], _ => pla_nil
  | d :: ds, h => pla_cons (h d List.mem_cons_self) (pla_of fun x hx => h x (List.mem_cons_of_mem _ hx))
theorem pla_map {α : Type} {f : α → PyData} {l : List α} (h : ∀ x ∈ l, Pl n (f x)) : PlA n (l.map f) := pla_of fun x hx => by
  obtain ⟨y, hy, rfl⟩ := List.mem_map.mp hx
  exact h y hy
theorem PlA.mem : ∀ {ds : List PyData}, PlA n ds → ∀ x ∈ ds, Pl n x
  | [], _, _, h => by cases h
  | d :: ds, t, x, h => by
    have p := t.p
    have q := t.d
    rw [PyData.plainAll, Bool.and_eq_true] at p
    have q := Nat.max_le.mp q
    rcases List.mem_cons.mp h with rfl | h
    · exact ⟨p.1, q.1⟩
    · exact PlA.mem ⟨p.2, q.2⟩ x h
theorem pl_tup (h : PlA n ds) : Pl (n + 1) (.tuple ds) := ⟨h.p, Nat.succ_le_succ h.d⟩
theorem pl_lst (h : PlA n ds) : Pl (n + 1) (.list ds) := ⟨h.p, Nat.succ_le_succ h.d⟩
theorem Pl.mono (h : Pl n d) (l : n ≤ m) : Pl m d := ⟨h.p, Nat.le_trans h.d l⟩
theorem PlA.mono (h : PlA n ds) (l : n ≤ m) : PlA m ds := ⟨h.p, Nat.le_trans h.d l⟩
theorem Pl.refl (h : Pl n d) : PyData.eqv d d = true := SeqAt.eqv_refl_plain d h.p
end
def rEqP (K : PySem.W.Frag) : R2 := fun x y H Q => ∃ d e, Dp K H x d ∧ Dp K H y e ∧ Pl 40 d ∧ Pl 40 e ∧ Q (.bl (PyData.eqv d e)) H
def rNeP (K : PySem.W.Frag) : R2 := fun x y H Q => ∃ d e, Dp K H x d ∧ Dp K H y e ∧ Pl 40 d ∧ Pl 40 e ∧ Q (.bl (!PyData.eqv d e)) H
theorem op_eqP {X : Cx} (hu : X.A.units + 64 < cLine) : OpR X (compareOp .Eq) (rEqP X.K) := by
  intro pins s σ H x y v u Q I rx ry h
  obtain ⟨d, e, hd, he, pd, pe, q⟩ := h
  obtain ⟨as, r1⟩ := Dp.reads I d x v hd rx
  obtain ⟨bs, r2⟩ := Dp.reads I e y u he ry
  have := pd.d
  exact PySem.SeqAt.eq_plain r1 r2 pd.p pe.p (by omega) ⟨.bl _, H, I, rfl, q⟩
theorem op_neP {X : Cx} (hu : X.A.units + 64 < cLine) : OpR X (compareOp .NotEq) (rNeP X.K) := by
  intro pins s σ H x y v u Q I rx ry h
  obtain ⟨d, e, hd, he, pd, pe, q⟩ := h
  obtain ⟨as, r1⟩ := Dp.reads I d x v hd rx
  obtain ⟨bs, r2⟩ := Dp.reads I e y u he ry
  have := pd.d
  exact PySem.SeqAt.ne_plain r1 r2 pd.p pe.p (by omega) ⟨.bl _, H, I, rfl, q⟩
theorem uEqPK {X : Cx} (K : PySem.W.Frag) (hu : X.A.units + 64 < cLine) (h : X.K = K := by rfl) : OpR X (compareOp .Eq) (rEqP K) := h ▸ op_eqP hu
theorem uNePK {X : Cx} (K : PySem.W.Frag) (hu : X.A.units + 64 < cLine) (h : X.K = K := by rfl) : OpR X (compareOp .NotEq) (rNeP K) := h ▸ op_neP hu
section
variable {g : Gd} {x y : PyData}
theorem eqP_d (hx : Pl 40 x) (hy : Pl 40 y) : RB g (rEqP g.K) x y (.bool (PyData.eqv x y)) := fun u v H hu hv Q q => ⟨x, y, hu, hv, hx, hy, q _ (.bl _)⟩
theorem neP_d (hx : Pl 40 x) (hy : Pl 40 y) : RB g (rNeP g.K) x y (.bool (!PyData.eqv x y)) := fun u v H hu hv Q q => ⟨x, y, hu, hv, hx, hy, q _ (.bl _)⟩
theorem eqv_int (a b : Int) : PyData.eqv (.int a) (.int b) = decide (a = b) := by
  show (a == b) = _
  rw [Bool.eq_iff_iff, beq_iff_eq, decide_eq_true_iff]
theorem eqv_str (a b : Str) : PyData.eqv (.str a) (.str b) = decide (a = b) := by
  show (a == b) = _
  rw [Bool.eq_iff_iff, beq_iff_eq, decide_eq_true_iff]
theorem eqP_i {a b : Int} : RB g (rEqP g.K) (.int a) (.int b) (.bool (decide (a = b))) := eqv_int a b ▸ eqP_d pl_int pl_int
theorem neP_i {a b : Int} : RB g (rNeP g.K) (.int a) (.int b) (.bool (!decide (a = b))) := eqv_int a b ▸ neP_d pl_int pl_int
theorem eqP_s {a b : Str} : RB g (rEqP g.K) (.str a) (.str b) (.bool (decide (a = b))) := eqv_str a b ▸ eqP_d pl_str pl_str
theorem neP_s {a b : Str} : RB g (rNeP g.K) (.str a) (.str b) (.bool (!decide (a = b))) := eqv_str a b ▸ neP_d pl_str pl_str
theorem neP_same (hx : Pl 40 x) : RB g (rNeP g.K) x x (.bool false) := by
  have := neP_d (g := g) hx hx
  rw [hx.refl] at this
  exact this
end
end DW

/-! sorted of ints, sorted of any alike data -/
namespace DW
open PySem PySem.Spec PyProof.Rows L2
theorem uSortIK {X : Cx} (K : PySem.W.Frag) (h : X.K = K := by rfl) : CallR X (.builtin "sorted") (rSorted K) := h ▸ cr_sorted
def leI (a b : Int) : Bool := decide (a ≤ b)
def sortI (ns : List Int) : List Int := ns.mergeSort leI
theorem sortI_perm (ns : List Int) : (sortI ns).Perm ns := List.mergeSort_perm ns leI
theorem sortI_uniq {ns ms : List Int} (p : ms.Perm ns) (h : ms.Pairwise (· ≤ ·)) : ms = sortI ns := by
  refine sorted_uniq (R := fun a b : Int => a ≤ b) (p.trans (sortI_perm ns).symm) (fun a _ b _ h1 h2 => Int.le_antisymm h1 h2) h ?_
  have := List.pairwise_mergeSort (le := leI) (fun a b c h1 h2 => by unfold leI at *; simp at *; omega) (fun a b => by unfold leI; simp; omega) ns
  exact this.imp fun h => of_decide_eq_true h
section
variable {g : Gd} {G : List Sl} {te ta tb : TE} {d x y : PyData} {ds es : List PyData} {i : Nat}
theorem el_sortI {ns : List Int} (h : B g te G (.list (ns.map .int))) (hz : ns.length < 64) : EL g (tCB (rSorted g.K) (tCons te tNil)) G ((sortI ns).map .int) := fun σ F H hh Q q => h σ F H hh _ fun v F1 H1 s1 d1 => by
  obtain ⟨a, vs, rfl, h1, h2⟩ := dp_sq d1
  have e := dps_vints h2
  subst e
  refine ⟨a, ns, rfl, h1, hz, fun ms p pm so hp => ?_⟩
  rw [sortI_uniq pm so]
  exact q p _ F1 _ (s1.trans (Stp.mine s1.i hp)) (old_free s1 hp) (s1.i.free hp) upd_same (dps_of_ints _)
end
/-! any alike data -/
def sortA (ds : List PyData) : List PyData := ds.mergeSort (PySem.W.dataLe false id)
structure SoOk (ds : List PyData) : Prop where
  al : PySem.W.AllAlike ds
  so : PySem.W.Sortable ds
  len : ds.length ≤ 100000
  dep : ∀ d ∈ ds, d.depth ≤ 40
def rSortA (K : PySem.W.Frag) : List V → Hp → VK → Prop := fun vs H Q => ∃ (a : Addr) (xs : List V) (ds : List PyData), vs = [.ref a] ∧ SqL K H a xs ∧ DpAll K H xs ds ∧ SoOk ds ∧
  ∀ (zs : List (V × PyData)) (p : Addr), zs.Perm (xs.zip ds) → zs.map (·.2) = sortA ds → H p = none → Q (.ref p) (upd H p (.lst (zs.map (·.1))))
theorem each_zip {X : Cx} {pins : List (Addr × Obj)} {σ : L2.St} {H : Hp} {s : Shared} (I : Inv X pins σ H s) : ∀ {xs : List V} {ds : List PyData} {us : List Value}, DpAll X.K H xs ds → Vals xs us →
    PySem.W.EachIs (fun (v : Value) (b : V × PyData) => RelV b.1 v) us (xs.zip ds) ∧ PySem.W.EachIs (fun (v : Value) (b : V × PyData) => ∃ as, Reads s.heap v b.2 as) us (xs.zip ds)
  | _, _, _, .nil, r => by cases r; exact ⟨.nil, .nil⟩
  | _, _, _, .cons a t, r => by
    cases r with
    | cons r1 r2 =>
      obtain ⟨h1, h2⟩ := each_zip I t r2
      exact ⟨.cons r1 h1, .cons (Dp.reads I _ _ _ a r1) h2⟩
theorem each_vals : ∀ {us : List Value} {zs : List (V × PyData)}, PySem.W.EachIs (fun (v : Value) (b : V × PyData) => RelV b.1 v) us zs → Vals (zs.map (·.1)) us
  | _, _, .nil => .nil
  | _, _, .cons r t => .cons r (each_vals t)
theorem map_snd_zip {α β : Type} : ∀ {xs : List α} {ds : List β}, xs.length = ds.length → (xs.zip ds).map (·.2) = ds
  | [], [], _ => rfl
  | x :: xs, d :: ds, h => by
    rw [List.zip_cons_cons, List.map_cons, map_snd_zip (by simpa using h)]
  | [], d :: ds, h => by simp at h
  | x :: xs, [], h => by simp at h
theorem cr_sortA {X : Cx} (hu : X.A.units + 64 < cLine) : CallR X (.builtin "sorted") (rSortA X.K) := by
  intro pins s σ H vs us Q I r h
  obtain ⟨a, xs, ds, rfl, hs, hd, ok, q⟩ := h
  obtain ⟨its, rv, hl, hz⟩ := I.list hs
  rw [Vals.ref1 r]
  obtain ⟨e1, e2⟩ := each_zip I hd rv
  have ln := dps_len hd
  have hm : (xs.zip ds).map (fun b => b.2) = ds := map_snd_zip ln
  have hlz : (xs.zip ds).length = ds.length := by rw [List.length_zip, ln]; omega
  have hmem : ∀ b ∈ xs.zip ds, b.2 ∈ ds := fun b hb => by rw [← hm]; exact List.mem_map.mpr ⟨b, hb, rfl⟩
  refine PySem.W.sorted_data (bs := xs.zip ds) (enc := fun b => b.2) hl.isList e1 e2 (by rw [hm]; exact ok.al) (by rw [hm]; exact ok.so) (by rw [hlz]; exact Nat.le_trans ok.len (by decide)) (fun b hb => by have := ok.dep _ (hmem b hb); omega) fun out lo eo => ?_
  obtain ⟨ep, he'⟩ := PyProof.Rows.sortedAll_at s.heap its out.toArray
  have hp := List.mergeSort_perm (xs.zip ds) (PySem.W.dataLe false fun b => b.2)
  have hlen : (((xs.zip ds).mergeSort (PySem.W.dataLe false fun b => b.2)).map (·.1)).length ≤ sizeLine := by
    rw [List.length_map, hp.length_eq, hlz]; exact Nat.le_trans ok.len (by decide)
  refine ⟨.ref _, upd H (s.heap.objs.size + 1) (.lst _), I.laid (t' := s.toks) (fun _ _ => PyProof.Rows.sortedAll_old) (Nat.le_succ _) ⟨hlen, out, ep, each_vals eo, he'⟩, rfl, q _ _ hp ?_ (I.hok.fresh (Nat.le_succ _))⟩
  refine (List.map_mergeSort (f := fun b : V × PyData => b.2) (r := PySem.W.dataLe false fun b => b.2) (s := PySem.W.dataLe false id) (fun a _ b _ => rfl)).trans ?_
  rw [hm]; rfl
theorem uSortAK {X : Cx} (K : PySem.W.Frag) (hu : X.A.units + 64 < cLine) (h : X.K = K := by rfl) : CallR X (.builtin "sorted") (rSortA K) := h ▸ cr_sortA hu
theorem dps_of_zip {K : PySem.W.Frag} {F : Hp} : ∀ {zs : List (V × PyData)}, (∀ p ∈ zs, Dp K F p.1 p.2) → DpAll K F (zs.map (·.1)) (zs.map (·.2))
  | [], _ => .nil
  | p :: zs, h => .cons (h p List.mem_cons_self) (dps_of_zip fun q hq => h q (List.mem_cons_of_mem _ hq))
section
variable {g : Gd} {G : List Sl} {te ta tb : TE} {d x y : PyData} {ds es : List PyData} {i : Nat}
theorem el_sortA (h : E g te G (.list ds)) (ok : SoOk ds) : EL g (tCB (rSortA g.K) (tCons te tNil)) G (sortA ds) := fun σ F H hh Q q => h σ F H hh _ fun v F1 H1 s1 d1 => by
  obtain ⟨a, vs, rfl, h1, h2⟩ := dp_sq d1
  refine ⟨a, vs, ds, rfl, s1.i.ex.l h1, s1.i.ex.dps ds vs h2, ok, fun zs p pm e hp => ?_⟩
  have hd := dps_of_zip (K := g.K) (F := F1) (zs := zs) fun z hz => zip_dps h2 z (pm.mem_iff.mp hz)
  rw [e] at hd
  exact q p _ F1 _ (s1.trans (Stp.mine s1.i hp)) (old_free s1 hp) (s1.i.free hp) upd_same hd
theorem el_sortAO {j : Nat} (h : G[j]? = some (.ow ds)) (ok : SoOk ds) : EL g (tCB (rSortA g.K) (tCons (tVar j) tNil)) G (sortA ds) := fun σ F H hh Q q => by
  obtain ⟨o, e, p, vs, ev, h0, hF, hH, hd⟩ := hh.at_ h
  subst ev
  refine ⟨.ref p, e, p, vs, ds, rfl, .inl (.inl hH), hh.st.i.ex.dps ds vs hd, ok, fun zs l pm e hl => ?_⟩
  have hd' := dps_of_zip (K := g.K) (F := F) (zs := zs) fun z hz => zip_dps hd z (pm.mem_iff.mp hz)
  rw [e] at hd'
  exact q l _ F _ (Stp.mine hh.st.i hl) hl (hh.st.i.free hl) upd_same hd'
end
end DW

/-! comprehensions whose items are known by a property; unpacking of a list; properties -/
namespace DW
open PySem PySem.Spec PyProof.Rows L2
theorem pg_unlK {X : Cx} {pos : Pos} {es : List Expr} {k n : Nat} {t : TGs} (K : PySem.W.Frag) (hc : X.calm = true) (ht : PGs X es t) (h1 : (assignEach es X.env).length = n := by rfl) (h2 : List.findIdx? (fun x => x.fst) (assignEach es X.env) = none := by rfl) (h : X.K = K := by rfl) : PG X (.Tuple es k pos) (gUnl K n t) := h ▸ pg_unl hc ht h1 h2
section
variable {g : Gd} {G G' : List Sl} {te : TE} {tgs : TGs} {tg : TG} {tw : TS} {D : Ends} {d : PyData} {ds : List PyData} {ix : List Nat} {P : PyData → Prop} {i : Nat}
theorem g_unl {n : Nat} (h : Tgs g tgs ds G G' ix) (hn : ds.length = n) : Tg g (gUnl g.K n tgs) (.list ds) G G' ix := fun v σ F H hh hd Q q => by
  obtain ⟨a, vs, rfl, h1, h2⟩ := dp_sq hd
  exact ⟨a, vs, rfl, hh.st.i.ex.l h1, (dps_len h2).trans hn, h vs σ F H hh h2 Q q⟩
theorem s_asgTP (h : EP g te G P) (k : ∀ d, P d → ∃ G' ix, Tg g tg d G G' ix ∧ N g D.nx G') : S g (tAsg te tg) D G := fun σ F H hh => h σ F H hh _ fun v F1 H1 d s1 p d1 => by
  obtain ⟨G', ix, ht, hk⟩ := k d p
  exact ht v σ F1 H1 (hh.mono s1) d1 _ fun σ' h' _ => hk σ' F1 H1 h'
theorem q_asgTP (h : EP g te G P) (k : ∀ d, P d → ∃ G' ix, Tg g tg d G G' ix ∧ S g tw D G') : S g (tSeq (tAsg te tg) tw) D G := s_asgTP (D := { D with nx := tw D }) h k
theorem ep_if {tt : TT} {ta tb : TE} {b : Bool} (h : T g tt G b) (h1 : b = true → EP g ta G P) (h2 : b = false → EP g tb G P) : EP g (tIf tt ta tb) G P := fun σ F H hh Q q => h σ F H hh _ fun F1 H1 s1 => by
  cases b with
  | true => exact h1 rfl σ F1 H1 (hh.mono s1) Q fun v F2 H2 d s2 => q v F2 H2 d (s1.trans s2)
  | false => exact h2 rfl σ F1 H1 (hh.mono s1) Q fun v F2 H2 d s2 => q v F2 H2 d (s1.trans s2)
/-- te gives a new list of ours with P -/
def ELP (g : Gd) (te : TE) (G : List Sl) (P : List PyData → Prop) : Prop := ∀ σ F H, Holds g G σ F H → ∀ Q : VK, (∀ p vs ds F' H', Stp F H F' H' → P ds → H p = none → F' p = none → H' p = some (.lst vs) → DpAll g.K F' vs ds → Q (.ref p) H') → te σ H Q
theorem ELP.ep {P : List PyData → Prop} (h : ELP g te G P) {P' : PyData → Prop} (m : ∀ ds, P ds → P' (.list ds)) : EP g te G P' := fun σ F H hh Q q => h σ F H hh Q fun p vs ds F' H' s pp h0 hF hH hd => by
  have e : Ex F' (upd F' p (.lst vs)) := fun a u q _ => by rw [upd_ne (ne_of_none q hF)]; exact q
  refine q (.ref p) (upd F' p (.lst vs)) H' (.list ds) ⟨s.f.trans e, ⟨fun a u q n => ?_, fun a ps q => ?_⟩, s.h, s.s, s.t, fun a u q n => ?_⟩ (m ds pp) (.lst (.inl (.inl upd_same)) (e.dps ds vs hd))
  · by_cases ha : a = p
    · subst ha; rw [upd_same] at q; cases q; exact hH
    · rw [upd_ne ha] at q; exact s.i.ex a u q n
  · by_cases ha : a = p
    · subst ha; rw [upd_same] at q; cases q
    · rw [upd_ne ha] at q; exact s.i.nt a ps q
  · rw [upd_ne (ne_of_none q h0)]; exact s.n a u q n
theorem s_asgLP {P : List PyData → Prop} (h : ELP g te G P) (k : ∀ ds, P ds → N g D.nx (G.set i (.ow ds))) : S g (tAsg te (gName i)) D G := fun σ F H hh => h σ F H hh _ fun p vs ds F1 H1 s1 pp h0 hF hH d1 =>
  k ds pp _ F1 H1 ((hh.mono s1).setO (old_free hh.st h0) hF hH d1 fun j _ ht => new_ok hh h0 j ht)
theorem q_asgLP {P : List PyData → Prop} (h : ELP g te G P) (k : ∀ ds, P ds → S g tw D (G.set i (.ow ds))) : S g (tSeq (tAsg te (gName i)) tw) D G := s_asgLP (D := { D with nx := tw D }) h k
/-- item by item -/
def All2 (P : PyData → PyData → Prop) (ds es : List PyData) : Prop := es.length = ds.length ∧ ∀ (i : Nat) (d e : PyData), ds[i]? = some d → es[i]? = some e → P d e
theorem all2_nil {P : PyData → PyData → Prop} : All2 P [] [] := ⟨rfl, fun _ _ _ h => by simp at h⟩
theorem all2_snoc {P : PyData → PyData → Prop} {ds es : List PyData} {d e : PyData} (h : All2 P ds es) (p : P d e) : All2 P (ds ++ [d]) (es ++ [e]) := by
  refine ⟨by rw [List.length_append, List.length_append, h.1]; rfl, fun i x y hx hy => ?_⟩
  by_cases hi : i < ds.length
  · rw [List.getElem?_append_left hi] at hx
    rw [List.getElem?_append_left (by rw [h.1]; exact hi)] at hy
    exact h.2 i x y hx hy
  · rw [List.getElem?_append_right (by omega)] at hx
    rw [List.getElem?_append_right (by rw [h.1]; omega), h.1] at hy
    cases hk : i - ds.length with
    | zero => rw [hk] at hx hy; cases hx; cases hy; exact p
    | succ n => rw [hk] at hx; simp at hx
theorem All2.all {P : PyData → PyData → Prop} {ds es : List PyData} {R : PyData → Prop} (h : All2 P ds es) (m : ∀ d e, d ∈ ds → P d e → R e) : ∀ e ∈ es, R e := fun e he => by
  obtain ⟨i, hi⟩ := List.getElem?_of_mem he
  have hl : i < ds.length := by rw [← h.1]; exact (List.getElem?_eq_some_iff.mp hi).1
  exact m ds[i] e (List.getElem_mem hl) (h.2 i _ e (List.getElem?_eq_getElem hl) hi)
theorem elp_lc {wi : TI} {vs : List Nat} (P : PyData → PyData → Prop) (G1 : PyData → List Sl) (it : IT g wi G ds) (hz : ds.length ≤ 40000)
    (tgt : ∀ F1, ∀ d ∈ ds, Tg { g with Fl := F1 } tg d (wipeG G vs) (G1 d) ix) (hix : ∀ j ∈ ix, j ∈ vs)
    (he : ∀ F1, ∀ d ∈ ds, EP { g with Fl := F1 } te (G1 d) (P d)) : ELP g (tLc wi tg tYes te vs) G (All2 P ds) := fun σ F H hh Q q => it σ F H hh _ fun J F1 H1 s1 W Dl hD => by
  have hh1 := hh.mono s1
  have hw := Holds.wipe hh1 vs
  have hwl : Holds { g with Fl := F1 } (wipeG G vs) (wipe σ vs) F1 H1 := ⟨hw.len, hw.st, hw.sl, hw.apart, hw.tab, Ex.refl F1⟩
  have hD0 : g.H0 Dl = none := old_free hh1.st hD
  have nw := new_ok hwl hD
  let Pv : Nat → Hp → Prop := fun i H' => ∃ F' ws es, Stp F1 H1 F' H' ∧ Holds { g with Fl := F1 } (wipeG G vs) (wipe σ vs) F' H' ∧ F' Dl = none ∧ H' Dl = some (.lst ws) ∧ DpAll g.K F' ws es ∧ All2 P (ds.take i) es
  refine ⟨fun i m H' => m = ds.length - i ∧ i ≤ ds.length ∧ Pv i H', ⟨ds.length, by simp, Nat.zero_le _, F1, [], [], Stp.mine s1.i hD, hwl.mono (Stp.mine s1.i hD), s1.i.free hD, upd_same, .nil, all2_nil⟩, ?_⟩
  rintro i m H2 ⟨rfl, hi, F2, ws, es, s2, hh2, hF2, hH2, hd2, al2⟩
  by_cases hlt : i < ds.length
  · have hget := List.getElem?_eq_getElem hlt
    have hmem : ds[i] ∈ ds := List.getElem_mem hlt
    refine .inr ⟨W.go i F2 H2 hh2.lo hh2.st.i hlt, Pv (i + 1), fun H' p' => ⟨ds.length - (i + 1), by omega, rfl, hlt, p'⟩, fun x H3 y => ?_⟩
    obtain ⟨F3, s3, d3⟩ := W.yld i F2 H2 x H3 ds[i] hh2.lo hh2.st.i hget y
    refine tgt F1 ds[i] hmem x (wipe σ vs) F3 H3 (hh2.mono s3) d3 _ fun σ3 hh3 w3 => ⟨?_, ?_⟩
    · rw [w3 vs hix]
      have ww : ∀ (l : List Nat), (∀ j ∈ l, j ∈ vs) → wipe (wipe σ l) vs = wipe σ vs := by
        intro l
        induction l with
        | nil => intro _; rfl
        | cons v l ih => intro hl; show wipe ((wipe σ l).set v none) vs = _; rw [wipe_set (hl v List.mem_cons_self)]; exact ih fun j hj => hl j (List.mem_cons_of_mem _ hj)
      exact ww vs fun _ h => h
    · show te σ3 H3 _
      refine he F1 ds[i] hmem σ3 F3 H3 hh3 _ fun w F5 H5 yv s5 py d5 => ?_
      have ss := s3.trans s5
      have hF5 := ss.n Dl _ hH2 hF2
      have hH5 := ss.h.lst hH2
      have e : ds.take (i + 1) = ds.take i ++ [ds[i]] := by rw [List.take_add_one, hget]; rfl
      have la : es.length = i := by rw [al2.1, List.length_take]; omega
      refine ⟨ws, hH5, Nat.lt_of_le_of_lt (by rw [dps_len hd2, la]; omega) (show 40000 < sizeLine by decide), F5, ws ++ [w], es ++ [yv], (s2.trans ss).mut hD hF5 hH5 (fun _ z => by cases z), (hh2.mono ss).mut hD0 hF5 hH5 (fun _ z => by cases z) (fun j t e1 m e2 => nw j ⟨t, e1, m⟩ e2), hF5, upd_same, dps_app (ss.f.dps es ws hd2) (.cons d5 .nil), ?_⟩
      rw [e]
      exact all2_snoc al2 py
  · have e : i = ds.length := by omega
    subst e
    rw [List.take_length] at al2
    exact .inl ⟨W.stop F2 H2 hh2.lo hh2.st.i, q Dl ws es F2 H2 (s1.trans s2) al2 (old_free s1 hD) hF2 hH2 hd2⟩
end
/-! a text, or None -/
def osD : Option Str → PyData
  | none => .none
  | some x => .str x
theorem isND_osD (x : Option Str) : isND (osD x) = x.isNone := by cases x <;> rfl
end DW

/-! loops over a list that is known by a property -/
namespace DW
open PySem PySem.Spec PyProof.Rows L2
theorem Wd.mono {K : PySem.W.Frag} {J : It} {ds : List PyData} {F1 F2 : Hp} (W : Wd K J ds F1) (e : Ex F1 F2) : Wd K J ds F2 :=
  ⟨fun i F H x sb hi => W.go i F H (e.trans x) sb hi, fun F H x sb => W.stop F H (e.trans x) sb, fun i F H x H' d y sb hd hy => W.yld i F H x H' d (e.trans y) sb hd hy⟩
def ITP (g : Gd) (wi : TI) (G : List Sl) (PL : List PyData → Prop) : Prop := ∀ σ F H, Holds g G σ F H → ∀ R : It → Hp → Prop, (∀ J F1 H1 ds, PL ds → Stp F H F1 H1 → Wd g.K J ds F1 → R J H1) → wi σ H R
section
variable {g : Gd} {G G' G1 : List Sl} {te ta tb tc : TE} {tt : TT} {tu tw : TS} {d x y : PyData} {ds es : List PyData} {i j : Nat} {D : Ends} {tg : TG} {P1 P2 : PyData → Prop} {PL : List PyData → Prop}
theorem itp_al (h : EP g te G fun d => ∃ ds, d = .list ds ∧ PL ds) : ITP g (iAny g.K te) G PL := fun σ F H hh R r => .inl (.inl (h σ F H hh _ fun v F1 H1 d s1 ⟨ds, ed, pl⟩ d1 => by
  subst ed
  have hh1 := (hh.mono s1).setF (i := σ.length) d1
  obtain ⟨a, vs, rfl, h1, h2⟩ := dp_sq d1
  refine ⟨a, rfl, ⟨vs, s1.i.ex.l h1⟩, r _ F1 H1 ds pl s1 ⟨fun i F2 H2 e sb hi => ?_, fun F2 H2 e sb => ?_, fun i F2 H2 x H' d e sb hd hy => ?_⟩⟩
  · have hi' : i < vs.length := by rw [dps_len h2]; exact hi
    exact ⟨vs, vs[i], sb.ex.l (e.l h1), List.getElem?_eq_getElem hi'⟩
  · exact ⟨vs, sb.ex.l (e.l h1), by rw [dps_len h2]; exact Nat.le_refl _⟩
  · obtain ⟨rfl, q⟩ := hy
    obtain ⟨w, e1, e2⟩ := dps_get h2 hd
    have e3 := q vs (sb.ex.l (e.l h1))
    rw [e1] at e3; cases e3
    exact ⟨F2, Stp.refl sb, e.dp d _ e2⟩))
theorem s_forP {wi : TI} (it : ITP g wi G PL) (α : List PyData → Type) (Iv : ∀ ds, Nat → α ds → List Sl) (P : ∀ ds, Nat → α ds → Prop)
    (k : ∀ ds, PL ds → (∃ a0, P ds 0 a0 ∧ Wk G (Iv ds 0 a0)) ∧
      (∀ F1 (i : Nat) (a : α ds) (d : PyData), ds[i]? = some d → P ds i a → ∃ G1 ix, Tg { g with Fl := F1 } tg d (Iv ds i a) G1 ix ∧
        S { g with Fl := F1 } tu { D with nx := nxI { g with Fl := F1 } (Iv ds (i + 1)) (P ds (i + 1)), ct := nxI { g with Fl := F1 } (Iv ds (i + 1)) (P ds (i + 1)), bk := D.nx } G1) ∧
      (∀ a, P ds ds.length a → N g D.nx (Iv ds ds.length a))) : S g (tFor wi tg tu) D G := fun σ F H hh => it σ F H hh _ fun J F1 H1 ds pl s1 W => by
  obtain ⟨⟨a0, p0, w0⟩, turn, done⟩ := k ds pl
  have hh1 := hh.mono s1
  have hh2 : Holds { g with Fl := F1 } G σ F1 H1 := ⟨hh1.len, hh1.st, hh1.sl, hh1.apart, hh1.tab, Ex.refl F1⟩
  have el : Ex g.Fl F1 := hh.lo.trans s1.f
  have up : ∀ {G : List Sl} {σ : L2.St} {F H : Hp}, Holds { g with Fl := F1 } G σ F H → Holds g G σ F H := fun h => ⟨h.len, h.st, h.sl, h.apart, h.tab, el.trans h.lo⟩
  have it' : IT { g with Fl := F1 } (fun _ H R => R J H) G ds := fun σ F H hh R r => r J F H (Stp.refl hh.st.i) (W.mono hh.lo)
  have := s_for (g := { g with Fl := F1 }) (D := D) (tg := tg) (tu := tu) (Iv ds) (P ds) it' a0 p0 w0 (fun F2 i a d hd p => turn F2 i a d hd p) fun a p σ F H hh => done a p σ F H (up hh)
  exact this σ F1 H1 hh2
theorem q_forP {wi : TI} (it : ITP g wi G PL) (α : List PyData → Type) (Iv : ∀ ds, Nat → α ds → List Sl) (P : ∀ ds, Nat → α ds → Prop)
    (k : ∀ ds, PL ds → (∃ a0, P ds 0 a0 ∧ Wk G (Iv ds 0 a0)) ∧
      (∀ F1 (i : Nat) (a : α ds) (d : PyData), ds[i]? = some d → P ds i a → ∃ G1 ix, Tg { g with Fl := F1 } tg d (Iv ds i a) G1 ix ∧
        S { g with Fl := F1 } tu { nx := nxI { g with Fl := F1 } (Iv ds (i + 1)) (P ds (i + 1)), rt := D.rt, ct := nxI { g with Fl := F1 } (Iv ds (i + 1)) (P ds (i + 1)), bk := tw D } G1) ∧
      (∀ a, P ds ds.length a → S g tw D (Iv ds ds.length a))) : S g (tSeq (tFor wi tg tu) tw) D G := s_forP (D := { D with nx := tw D }) it α Iv P k
/-- .. a steady state -/
theorem s_forP1 {wi : TI} (it : ITP g wi G PL) (I : List Sl) (w0 : Wk G I)
    (turn : ∀ F1 (d : PyData) ds, PL ds → d ∈ ds → ∃ G1 ix, Tg { g with Fl := F1 } tg d I G1 ix ∧
        S { g with Fl := F1 } tu { D with nx := nxI { g with Fl := F1 } (fun _ : Unit => I) (fun _ => True), ct := nxI { g with Fl := F1 } (fun _ : Unit => I) (fun _ => True), bk := D.nx } G1)
    (done : N g D.nx I) : S g (tFor wi tg tu) D G :=
  s_forP it (fun _ => Unit) (fun _ _ _ => I) (fun _ _ _ => True) fun ds pl => ⟨⟨(), trivial, w0⟩, fun F1 i _ d hd _ => turn F1 d ds pl (List.mem_of_getElem? hd), fun _ _ => done⟩
theorem q_forP1 {wi : TI} (it : ITP g wi G PL) (I : List Sl) (w0 : Wk G I)
    (turn : ∀ F1 (d : PyData) ds, PL ds → d ∈ ds → ∃ G1 ix, Tg { g with Fl := F1 } tg d I G1 ix ∧
        S { g with Fl := F1 } tu { nx := nxI { g with Fl := F1 } (fun _ : Unit => I) (fun _ => True), rt := D.rt, ct := nxI { g with Fl := F1 } (fun _ : Unit => I) (fun _ => True), bk := tw D } G1)
    (done : S g tw D I) : S g (tSeq (tFor wi tg tu) tw) D G := s_forP1 (D := { D with nx := tw D }) it I w0 turn done
theorem elp_op {r : R2} (ha : EP g ta G P1) (hb : EP g tb G P2) (hr : ∀ x y, P1 x → P2 y → ∃ ds, RL g r x y ds ∧ PL ds) : ELP g (tOp r ta tb) G PL := fun σ F H hh Q q =>
  ha σ F H hh _ fun u F1 H1 x s1 p1 d1 => hb σ F1 H1 (hh.mono s1) _ fun v F2 H2 y s2 p2 d2 => by
    obtain ⟨ds, rl, pl⟩ := hr x y p1 p2
    exact rl u v F2 H2 s2.i (s2.f.dp x u d1) d2 Q fun p vs hp hd => q p vs ds F2 _ ((s1.trans s2).trans (Stp.mine s2.i hp)) pl (old_free (s1.trans s2) hp) (s2.i.free hp) upd_same hd
theorem EL.ep (h : EL g te G ds) (p : P1 (.list ds)) : EP g te G P1 := h.e.p p
/-- lists of ints -/
def isIL (n : Nat) (d : PyData) : Prop := ∃ T : List Int, d = iL' T ∧ T.length ≤ n
where iL' (T : List Int) : PyData := .list (T.map .int)
end
end DW

/-! comprehensions with two for; extend -/
namespace DW
open PySem PySem.Spec PyProof.Rows L2
theorem pi_anyK {X : Cx} {tg l : Expr} {tl : TE} (K : PySem.W.Frag) (hl : PE X l tl) (h : X.K = K := by rfl) : PI X tg l (iAny K tl) := h ▸ pi_any hl
def lc2F (f0 : PyData → Option (List PyData)) (f : PyData → PyData → Option PyData) (d : PyData) : List PyData := match f0 d with | some es => es.filterMap (f d) | none => []
theorem flat_take {α β : Type} (q : α → List β) {l : List α} {i : Nat} {x : α} (h : l[i]? = some x) : (l.take (i + 1)).flatMap q = (l.take i).flatMap q ++ q x := by
  rw [List.take_add_one, h, List.flatMap_append]; simp
theorem flat_len {α β : Type} (q : α → List β) (l : List α) (i : Nat) : ((l.take i).flatMap q).length ≤ (l.flatMap q).length := by
  have : l.flatMap q = (l.take i).flatMap q ++ (l.drop i).flatMap q := by rw [← List.flatMap_append, List.take_append_drop]
  rw [this, List.length_append]; omega
section
variable {g : Gd} {G : List Sl} {te ta : TE} {tt tt1 : TT} {tg tg1 : TG} {ds es : List PyData} {d : PyData} {ix ix1 : List Nat} {i : Nat} {D : Ends} {tw : TS}
theorem holds_fl {σ : L2.St} {F H F1 : Hp} (h : Holds g G σ F H) (e : Ex F1 F) : Holds { g with Fl := F1 } G σ F H := ⟨h.len, h.st, h.sl, h.apart, h.tab, e⟩
theorem wipe_in (σ : L2.St) (vs : List Nat) : ∀ (l : List Nat), (∀ j ∈ l, j ∈ vs) → wipe (wipe σ l) vs = wipe σ vs
  | [], _ => rfl
  | v :: l, hl => by
    show wipe ((wipe σ l).set v none) vs = _
    rw [wipe_set (hl v List.mem_cons_self)]
    exact wipe_in σ vs l fun j hj => hl j (List.mem_cons_of_mem _ hj)
theorem wipeG_get : ∀ (vs : List Nat) {G : List Sl} {j : Nat} {t : Sl}, (wipeG G vs)[j]? = some t → t = .un ∨ G[j]? = some t
  | [], _, _, _, h => .inr h
  | v :: vs, G, j, t, h => by
    unfold wipeG at h
    by_cases hj : v = j
    · subst hj
      have hi : v < (wipeG G vs).length := by have := (List.getElem?_eq_some_iff.mp h).1; rwa [List.length_set] at this
      rw [List.getElem?_set_self hi] at h; cases h; exact .inl rfl
    · rw [List.getElem?_set_ne hj] at h; exact wipeG_get vs h
theorem el_lc2 {wi wi1 : TI} {vs vs1 : List Nat} (f0 : PyData → Option (List PyData)) (f : PyData → PyData → Option PyData) (G1 : PyData → List Sl) (G2 : PyData → PyData → List Sl)
    (it : IT g wi G ds) (hz : (ds.flatMap (lc2F f0 f)).length ≤ 40000)
    (tgt : ∀ F1, ∀ d ∈ ds, Tg { g with Fl := F1 } tg d (wipeG G vs) (G1 d) ix) (hix : ∀ j ∈ ix, j ∈ vs)
    (ht : ∀ F1, ∀ d ∈ ds, T { g with Fl := F1 } tt (G1 d) (f0 d).isSome)
    (it1 : ∀ F1, ∀ d ∈ ds, ∀ es, f0 d = some es → IT { g with Fl := F1 } wi1 (G1 d) es)
    (nm : ∀ d ∈ ds, ∀ t ∈ G1 d, Sl.mine t = false)
    (tgt1 : ∀ F1, ∀ d ∈ ds, ∀ es, f0 d = some es → ∀ e ∈ es, Tg { g with Fl := F1 } tg1 e (wipeG (G1 d) vs1) (G2 d e) ix1) (hix1 : ∀ j ∈ ix1, j ∈ vs1)
    (ht1 : ∀ F1, ∀ d ∈ ds, ∀ es, f0 d = some es → ∀ e ∈ es, T { g with Fl := F1 } tt1 (G2 d e) (f d e).isSome)
    (he : ∀ F1, ∀ d ∈ ds, ∀ es, f0 d = some es → ∀ e ∈ es, ∀ y, f d e = some y → E { g with Fl := F1 } te (G2 d e) y) :
    EL g (tLc2 wi tg tt wi1 tg1 tt1 te vs vs1) G (ds.flatMap (lc2F f0 f)) := fun σ F H hh Q q => it σ F H hh _ fun J F1 H1 s1 W Dl hD => by
  have hh1 := hh.mono s1
  have hwl : Holds { g with Fl := F1 } (wipeG G vs) (wipe σ vs) F1 H1 := holds_fl (Holds.wipe hh1 vs) (Ex.refl F1)
  have hD0 : g.H0 Dl = none := old_free hh1.st hD
  have nw := new_ok hwl hD
  let Pv : Nat → Hp → Prop := fun i H' => ∃ F' ws, Stp F1 H1 F' H' ∧ Holds { g with Fl := F1 } (wipeG G vs) (wipe σ vs) F' H' ∧ F' Dl = none ∧ H' Dl = some (.lst ws) ∧ DpAll g.K F' ws ((ds.take i).flatMap (lc2F f0 f))
  have flen : ∀ i, ((ds.take i).flatMap (lc2F f0 f)).length ≤ 40000 := fun i => Nat.le_trans (flat_len _ _ _) hz
  refine ⟨fun i m H' => m = ds.length - i ∧ i ≤ ds.length ∧ Pv i H', ⟨ds.length, by simp, Nat.zero_le _, F1, [], Stp.mine s1.i hD, hwl.mono (Stp.mine s1.i hD), s1.i.free hD, upd_same, .nil⟩, ?_⟩
  rintro i m H2 ⟨rfl, hi, F2, ws, s2, hh2, hF2, hH2, hd2⟩
  by_cases hlt : i < ds.length
  · have hget := List.getElem?_eq_getElem hlt
    have hmem : ds[i] ∈ ds := List.getElem_mem hlt
    refine .inr ⟨W.go i F2 H2 hh2.lo hh2.st.i hlt, Pv (i + 1), fun H' p' => ⟨ds.length - (i + 1), by omega, rfl, hlt, p'⟩, fun x H3 y => ?_⟩
    obtain ⟨F3, s3, d3⟩ := W.yld i F2 H2 x H3 ds[i] hh2.lo hh2.st.i hget y
    refine tgt F1 ds[i] hmem x (wipe σ vs) F3 H3 (hh2.mono s3) d3 _ fun σ3 hh3 w3 => ⟨?_, ?_⟩
    · rw [w3 vs hix]; exact wipe_in σ vs vs fun _ h => h
    · refine ht F1 ds[i] hmem σ3 F3 H3 hh3 _ fun F4 H4 s4 => ?_
      have e : (ds.take (i + 1)).flatMap (lc2F f0 f) = _ := flat_take (lc2F f0 f) hget
      have eF : lc2F f0 f ds[i] = match f0 ds[i] with | some es => es.filterMap (f ds[i]) | none => [] := rfl
      have ss := s3.trans s4
      have lo4 : Ex F1 F4 := (s2.trans ss).f
      cases hf : f0 ds[i] with
      | none =>
        show Pv (i + 1) H4
        rw [hf] at eF
        rw [eF, List.append_nil] at e
        exact ⟨F4, ws, s2.trans ss, hh2.mono ss, ss.n Dl _ hH2 hF2, ss.h.lst hH2, by rw [e]; exact ss.f.dps _ ws hd2⟩
      | some es =>
        rw [hf] at eF
        rw [eF] at e
        have e : (ds.take (i + 1)).flatMap (lc2F f0 f) = (ds.take i).flatMap (lc2F f0 f) ++ es.filterMap (f ds[i]) := e
        have hh4 := hh3.mono s4
        refine it1 F1 ds[i] hmem es hf σ3 F4 H4 hh4 _ fun J1 F5 H5 s5 W1 => ?_
        have t5 := ss.trans s5
        have hh5 := hh4.mono s5
        have hw5 : Holds { g with Fl := F5 } (wipeG (G1 ds[i]) vs1) (wipe σ3 vs1) F5 H5 := holds_fl (g := { g with Fl := F1 }) (Holds.wipe hh5 vs1) (Ex.refl F5)
        have hF5 := t5.n Dl _ hH2 hF2
        have hH5 := t5.h.lst hH2
        have nw1 : ∀ (j : Nat) (t : Sl), (wipeG (G1 ds[i]) vs1)[j]? = some t → t.mine = true → (wipe σ3 vs1)[j]? ≠ some (some (.ref Dl)) := fun j t e1 m1 => by
          rcases wipeG_get vs1 e1 with rfl | e2
          · cases m1
          · rw [nm _ hmem t (List.mem_of_getElem? e2)] at m1; cases m1
        let Pw : Nat → Hp → Prop := fun j H' => ∃ F' ws, Stp F1 H1 F' H' ∧ Holds { g with Fl := F1 } (wipeG G vs) (wipe σ vs) F' H' ∧ Holds { g with Fl := F5 } (wipeG (G1 ds[i]) vs1) (wipe σ3 vs1) F' H' ∧ F' Dl = none ∧ H' Dl = some (.lst ws) ∧ DpAll g.K F' ws ((ds.take i).flatMap (lc2F f0 f) ++ (es.take j).filterMap (f ds[i]))
        have blen : ∀ j, ((ds.take i).flatMap (lc2F f0 f) ++ (es.take j).filterMap (f ds[i])).length ≤ 40000 := fun j => by
          have h1 := flen (i + 1)
          rw [e, List.length_append] at h1
          have h2 : ((es.take j).filterMap (f ds[i])).length ≤ (es.filterMap (f ds[i])).length := by
            have : es.filterMap (f ds[i]) = (es.take j).filterMap (f ds[i]) ++ (es.drop j).filterMap (f ds[i]) := by rw [← List.filterMap_append, List.take_append_drop]
            rw [this, List.length_append]; omega
          rw [List.length_append]; omega
        refine ⟨fun j k H' => k = es.length - j ∧ j ≤ es.length ∧ Pw j H', ⟨es.length, by simp, Nat.zero_le _, F5, ws, s2.trans t5, hh2.mono t5, hw5, hF5, hH5, by rw [List.take_zero]; show DpAll _ _ _ (_ ++ []); rw [List.append_nil]; exact t5.f.dps _ ws hd2⟩, ?_⟩
        rintro j k H6 ⟨rfl, hj, F6, ws6, s6, hh6, hw6, hF6, hH6, hd6⟩
        by_cases hlj : j < es.length
        · have hgj := List.getElem?_eq_getElem hlj
          have hmj : es[j] ∈ es := List.getElem_mem hlj
          refine .inr ⟨W1.go j F6 H6 hw6.lo hw6.st.i hlj, Pw (j + 1), fun H' p' => ⟨es.length - (j + 1), by omega, rfl, hlj, p'⟩, fun x H7 y => ?_⟩
          obtain ⟨F7, s7, d7⟩ := W1.yld j F6 H6 x H7 es[j] hw6.lo hw6.st.i hgj y
          refine tgt1 F5 ds[i] hmem es hf es[j] hmj x (wipe σ3 vs1) F7 H7 (hw6.mono s7) d7 _ fun σ8 hh8 w8 => ⟨?_, ?_⟩
          · rw [w8 vs1 hix1]; exact wipe_in σ3 vs1 vs1 fun _ h => h
          · refine ht1 F5 ds[i] hmem es hf es[j] hmj σ8 F7 H7 hh8 _ fun F9 H9 s9 => ?_
            have ej : (es.take (j + 1)).filterMap (f ds[i]) = _ := filt_take (f := f ds[i]) hgj
            cases hfy : f ds[i] es[j] with
            | none =>
              show Pw (j + 1) H9
              rw [hfy] at ej
              have sz := s7.trans s9
              exact ⟨F9, ws6, s6.trans sz, hh6.mono sz, hw6.mono sz, sz.n Dl _ hH6 hF6, sz.h.lst hH6, by rw [ej, List.append_nil]; exact sz.f.dps _ ws6 hd6⟩
            | some yv =>
              show te σ8 H9 _
              rw [hfy] at ej
              refine he F5 ds[i] hmem es hf es[j] hmj yv hfy σ8 F9 H9 (hh8.mono s9) _ fun v F10 H10 s10 d10 => ?_
              have sz := (s7.trans s9).trans s10
              have hF10 := sz.n Dl _ hH6 hF6
              have hH10 := sz.h.lst hH6
              refine ⟨ws6, hH10, Nat.lt_of_le_of_lt (by rw [dps_len hd6]; exact blen j) (show 40000 < sizeLine by decide), F10, ws6 ++ [v], (s6.trans sz).mut hD hF10 hH10 (fun _ z => by cases z), (hh6.mono sz).mut hD0 hF10 hH10 (fun _ z => by cases z) (fun j t e1 m e2 => nw j ⟨t, e1, m⟩ e2), (hw6.mono sz).mut hD0 hF10 hH10 (fun _ z => by cases z) nw1, hF10, upd_same, ?_⟩
              rw [ej, ← List.append_assoc]
              exact dps_app (sz.f.dps _ ws6 hd6) (.cons d10 .nil)
        · have ee : j = es.length := by omega
          subst ee
          rw [List.take_length, ← e] at hd6
          exact .inl ⟨W1.stop F6 H6 hw6.lo hw6.st.i, F6, ws6, s6, hh6, hF6, hH6, hd6⟩
  · have e : i = ds.length := by omega
    subst e
    rw [List.take_length] at hd2
    exact .inl ⟨W.stop F2 H2 hh2.lo hh2.st.i, q Dl ws F2 H2 (s1.trans s2) (old_free s1 hD) hF2 hH2 hd2⟩
/-- xs.extend(e) -/
theorem s_ext (h : G[i]? = some (.ow ds)) (he : EL g te G es) (hz : ds.length + es.length ≤ 100000) (k : N g D.nx (G.set i (.ow (ds ++ es)))) : S g (tDrop (tBM g.K "list" rExtend (tVar i) (tCons te tNil))) D G := fun σ F H hh => by
  obtain ⟨o, e, p, vs, ev, h0, hF, hH, hd⟩ := hh.at_ h
  subst ev
  refine ⟨.ref p, e, .inl ⟨rfl, vs, .inl (.inl hH)⟩, he σ F H hh _ fun b ws F1 H1 s1 hb hFb hHb d1 => ?_⟩
  have hH1 := s1.h.lst hH
  refine ⟨p, b, vs, ws, rfl, rfl, hH1, hHb, Nat.le_trans (by rw [dps_len hd, dps_len d1]; exact hz) (by decide), ?_⟩
  exact k σ F1 _ (own_set hh h e h0 hF hH s1 (dps_app (s1.f.dps ds vs hd) d1))
theorem q_ext (h : G[i]? = some (.ow ds)) (he : EL g te G es) (hz : ds.length + es.length ≤ 100000) (k : S g tw D (G.set i (.ow (ds ++ es)))) : S g (tSeq (tDrop (tBM g.K "list" rExtend (tVar i) (tCons te tNil))) tw) D G := s_ext (D := { D with nx := tw D }) h he hz k
end
end DW

/-! x = xs.pop()[k], xs[k] = e -/
namespace DW
open PySem PySem.Spec PyProof.Rows L2
section
variable {g : Gd} {G : List Sl} {te ta tb tk : TE} {d y : PyData} {ds es xs : List PyData} {i j : Nat} {D : Ends} {tw : TS}
theorem s_popIx {k : Int} (h : G[i]? = some (.ow (ds ++ [.tuple xs]))) (hk : atI xs k = some y) (kk : N g D.nx ((G.set i (.ow ds)).set j (.fz y))) : S g (tAsg (tOp (rIx g.K) (tBM0 g.K "list" rPop (tVar i)) (tC (.int k))) (gName j)) D G := fun σ F H hh => by
  obtain ⟨o, e, p, vs, ev, h0, hF, hH, hd⟩ := hh.at_ h
  subst ev
  obtain ⟨v, h1, h2, h3⟩ := dps_last hd
  refine ⟨.ref p, e, .inl ⟨rfl, vs, .inl (.inl hH)⟩, p, vs, v, rfl, rfl, hH, h1, ?_⟩
  have z := own_set hh h e h0 hF hH (Stp.refl hh.st.i) h3
  obtain ⟨a, us, rfl, q1, q2⟩ := dp_tq h2
  unfold atI at hk
  rw [← dps_len q2] at hk
  cases hi : ixN us.length k with
  | none => rw [hi] at hk; cases hk
  | some m =>
    rw [hi] at hk
    obtain ⟨u, e1, e2⟩ := dps_get q2 (show xs[m]? = some y from hk)
    exact .inr (.inl ⟨a, us, k, u, rfl, rfl, z.st.i.ex.t q1, by unfold atI; rw [hi]; exact e1, kk _ F _ (z.setF e2)⟩)
theorem q_popIx {k : Int} (h : G[i]? = some (.ow (ds ++ [.tuple xs]))) (hk : atI xs k = some y) (kk : S g tw D ((G.set i (.ow ds)).set j (.fz y))) : S g (tSeq (tAsg (tOp (rIx g.K) (tBM0 g.K "list" rPop (tVar i)) (tC (.int k))) (gName j)) tw) D G := s_popIx (D := { D with nx := tw D }) h hk kk
theorem dps_set {K : PySem.W.Frag} {F : Hp} {v : V} (hv : Dp K F v d) : ∀ {vs : List V} {ds : List PyData} (n : Nat), DpAll K F vs ds → DpAll K F (vs.set n v) (ds.set n d)
  | _, _, _, .nil => .nil
  | _, _, 0, .cons _ t => .cons hv t
  | _, _, n + 1, .cons a t => .cons a (dps_set hv n t)
/-- xs[k] = e -/
theorem s_setI {k : Int} {n : Nat} (h : G[i]? = some (.ow ds)) (he : E g te G d) (hb : E g tb G (.int k)) (hk : ixN ds.length k = some n) (kk : N g D.nx (G.set i (.ow (ds.set n d)))) : S g (tAsg te (gSub (tVar i) tb rSetL)) D G := fun σ F H hh => by
  obtain ⟨o, e, p, vs, ev, h0, hF, hH, hd⟩ := hh.at_ h
  subst ev
  refine he σ F H hh _ fun v F1 H1 s1 d1 => ⟨.ref p, e, hb σ F1 H1 (hh.mono s1) _ fun u F2 H2 s2 d2 => ?_⟩
  cases d2
  have ss := s1.trans s2
  exact ⟨p, vs, k, n, rfl, rfl, ss.h.lst hH, by rw [dps_len hd]; exact hk, kk σ F2 _ (own_set hh h e h0 hF hH ss (dps_set (s2.f.dp d v d1) n (ss.f.dps ds vs hd)))⟩
theorem eqv_os (x y : Option Str) : PyData.eqv (osD x) (osD y) = decide (x = y) := by
  cases x with
  | none => cases y with
    | none => rfl
    | some b => rfl
  | some a => cases y with
    | none => rfl
    | some b =>
      show PyData.eqv (.str a) (.str b) = _
      rw [eqv_str]
      by_cases e : a = b
      · rw [decide_eq_true e, decide_eq_true (by rw [e])]
      · rw [decide_eq_false e, decide_eq_false (fun z => e (Option.some.inj z))]
theorem pl_os {n : Nat} (x : Option Str) : Pl n (osD x) := by
  cases x with
  | none => exact pl_non
  | some a => exact pl_str
theorem eqP_os {x y : Option Str} : RB g (rEqP g.K) (osD x) (osD y) (.bool (decide (x = y))) := eqv_os x y ▸ eqP_d (pl_os x) (pl_os y)
end
end DW

/-! max of a list of ints, math.lcm -/
namespace DW
open PySem PySem.Spec PyProof.Rows L2
/-- the greatest of some ints -/
def maxI (x : Int) (xs : List Int) : Int := xs.foldl (fun a y => if y > a then y else a) x
theorem maxI_le : ∀ (xs : List Int) (x : Int), x ≤ maxI x xs ∧ ∀ y ∈ xs, y ≤ maxI x xs
  | [], x => ⟨Int.le_refl _, fun y h => by cases h⟩
  | z :: xs, x => by
    have h := maxI_le xs (if z > x then z else x)
    have e : maxI x (z :: xs) = maxI (if z > x then z else x) xs := rfl
    rw [e]
    refine ⟨?_, fun y hy => ?_⟩
    · have := h.1; split at this <;> (rename_i q; split <;> omega)
    · rcases List.mem_cons.mp hy with rfl | hy
      · have := h.1; split at this <;> (rename_i q; split <;> omega)
      · exact h.2 y hy
theorem maxI_mem : ∀ (xs : List Int) (x : Int), maxI x xs ∈ x :: xs
  | [], x => List.mem_cons_self
  | z :: xs, x => by
    have h := maxI_mem xs (if z > x then z else x)
    have e : maxI x (z :: xs) = maxI (if z > x then z else x) xs := rfl
    rw [e]
    rcases List.mem_cons.mp h with h | h
    · rw [h]
      split
      · exact List.mem_cons_of_mem _ List.mem_cons_self
      · exact List.mem_cons_self
    · exact List.mem_cons_of_mem _ (List.mem_cons_of_mem _ h)
theorem maxI_uniq {xs : List Int} {x m : Int} (h1 : m ∈ x :: xs) (h2 : ∀ y ∈ x :: xs, y ≤ m) : m = maxI x xs := by
  have a := h2 _ (maxI_mem xs x)
  have b : m ≤ maxI x xs := by
    rcases List.mem_cons.mp h1 with rfl | h
    · exact (maxI_le xs m).1
    · exact (maxI_le xs x).2 m h
  omega
theorem maxI_app (x : Int) (xs ys : List Int) : maxI x (xs ++ ys) = maxI (maxI x xs) ys := List.foldl_append ..
theorem uMax1 {X : Cx} (K : PySem.W.Frag) (hc : X.calm = true) (h : X.K = K := by rfl) : CallR X (.builtin "max") (rMax K) := h ▸ cr_max hc
def rLcm : List V → Hp → VK → Prop := fun vs H Q => ∃ a b : Int, vs = [.int a, .int b] ∧ a.natAbs < 2 ^ 1000 ∧ b.natAbs < 2 ^ 1000 ∧ Q (.int ((Nat.lcm a.natAbs b.natAbs : Nat) : Int)) H
theorem log_of {n : Nat} (h : n < 2 ^ 1000) : n.log2 ≤ 999 := by
  by_cases h0 : n = 0
  · subst h0; rw [Nat.log2_zero]; exact Nat.zero_le _
  · exact Nat.le_of_lt_succ ((Nat.log2_lt h0).mpr h)
theorem cr_lcm {X : Cx} : CallR X (.builtin "math.lcm") rLcm := by
  intro pins s σ H vs us Q I r h
  obtain ⟨a, b, rfl, ha, hb, q⟩ := h
  obtain ⟨t, u, rfl⟩ := Vals.int2 r
  have e : ((Nat.lcm 1 a.natAbs).lcm b.natAbs) = Nat.lcm a.natAbs b.natAbs := by rw [Nat.lcm_one_left]
  have h1 : 1 < 2 ^ 1000 := Nat.one_lt_two_pow (by decide)
  have l1 := log_of (show max 1 a.natAbs < 2 ^ 1000 by exact Nat.max_lt.mpr ⟨h1, ha⟩)
  have l2 := log_of (show max a.natAbs b.natAbs < 2 ^ 1000 by exact Nat.max_lt.mpr ⟨ha, hb⟩)
  have hl : Nat.lcm a.natAbs b.natAbs ≤ a.natAbs * b.natAbs := Nat.div_le_self _ _
  have hs : ((((Nat.lcm 1 a.natAbs).lcm b.natAbs : Nat) : Int)).natAbs.log2 < bitsLine := by
    rw [e, Int.natAbs_natCast]
    by_cases h0 : Nat.lcm a.natAbs b.natAbs = 0
    · rw [h0, Nat.log2_zero]; decide
    · refine (Nat.log2_lt h0).mpr (Nat.lt_of_le_of_lt (Nat.le_trans hl (Nat.mul_le_mul (Nat.le_of_lt ha) (Nat.le_of_lt hb))) ?_)
      rw [← Nat.pow_add]
      exact Nat.pow_lt_pow_right (by decide) (by decide)
  exact PySem.call_function_meets PySem.W.MGF.kind_lcm PySem.W.MGF.plain_lcm PySem.W.MGF.entry_lcm (PySem.W.MGF.args_lcm _ _) (PySem.W.mg_run_lcm a t b u (by omega) (by omega) hs).meets ⟨.int _, H, I.tok _, ⟨_, rfl⟩, by rw [e]; exact q⟩
section
variable {g : Gd} {G : List Sl} {te ta tb : TE} {d x y : PyData} {ds es : List PyData} {i : Nat}
theorem maxL_i {n : Int} {ns : List Int} : C1 g (rMax g.K) [.list ((n :: ns).map .int)] (.int (maxI n ns)) := fun vs H h Q q => by
  obtain ⟨v, rfl, hw⟩ := ab_one h
  obtain ⟨a, ws, rfl, h1, h2⟩ := dp_sq hw
  have e := dps_vints h2
  subst e
  refine ⟨a, n :: ns, rfl, h1, by simp, fun m hm hle => ?_⟩
  rw [maxI_uniq hm hle]
  exact q _ (.int _)
theorem lcm_i {a b : Int} (ha : a.natAbs < 2 ^ 1000) (hb : b.natAbs < 2 ^ 1000) : C1 g rLcm [.int a, .int b] (.int ((Nat.lcm a.natAbs b.natAbs : Nat) : Int)) := fun vs H h Q q => by
  cases h with
  | cons h1 h => cases h with
    | cons h2 h => cases h; cases h1; cases h2; exact ⟨a, b, rfl, ha, hb, q _ (.int _)⟩
end
end DW

/-! exceptions without fields: raise C('text'), try: return (.., f(..)) except W as e, isinstance(e, C) -/
namespace DW
open PySem PySem.Spec PyProof.Rows L2
/-- what a call comes to -/
inductive OutN where
  | val (d : PyData)
  | exc (C : Addr)
def XnOk (g : Gd) (Ek : XK) (C : Addr) : Prop := ∀ F H, Stp g.F0 g.H0 F H → Ek (.ref C) none H
def OutNOk (g : Gd) (Q : VK) (Ek : XK) : OutN → Prop
  | .val d => Rt g Q d
  | .exc C => XnOk g Ek C
def spN (K : PySem.W.Frag) (Tb : List Addr) (R : List PyData → OutN → Prop) : Sp := fun vs H Q Ek => ∃ F ds o, Sub F H ∧ (∀ P ∈ Tb, GxR.TabG H P) ∧ DpAll K F vs ds ∧ R ds o ∧ OutNOk ⟨K, Tb, F, H, F⟩ Q Ek o
/-- a def at hand that may raise -/
structure DfN (P : Program) (w : World) (K : PySem.W.Frag) (mg : Str → Option Value) (base : Heap) (k : Nat) (x : Str) (ps : List Str) (sp : Sp) : Prop where
  ex : ∃ f fd, FnOk P w K mg base (L2.CX P w) k f fd ps sp ∧ mg x = some (.ref f) ∧ PySem.W.keepIn K (.ref f) = true ∧ Binds K fd ps []
section
variable {P : Program} {w : World} {K : PySem.W.Frag} {mg : Str → Option Value} {base : Heap} {x qual : Str} {st : Stmt} {f : Addr} {fd : FuncData} {Nn ps : List Str} {k : Nat} {Tb : List Addr}
theorem df_N (F : Fun K x qual st f fd) (Sc : FnScope Nn ps (defScope st)) (hm : mg x = some (.ref f)) (hb : Binds K fd ps []) {R : List PyData → OutN → Prop} (hlen : ∀ ds o, R ds o → ds.length = ps.length)
    (body : ∀ (cdv : Value) (A : Around) (outer : List Env) (s : Shared) (H : Hp) (E : XK), Room k (A.deeper (envOfC qual (defScope st) s.heap.objs.size f cdv)) →
      ∃ t, PSs (cxOf (L2.CX P w) P w K mg base Nn qual (defScope st) f cdv A outer s H E) (defBody st) t ∧ ∀ (ds : List PyData) (o : OutN) (F0 H0 : Hp) (Q : VK), R ds o → OutNOk ⟨K, Tb, F0, H0, F0⟩ Q E o → S ⟨K, Tb, F0, H0, F0⟩ t { nx := fun _ H' => Q .non H', rt := Q } (startG Nn.length ds)) :
    DfN P w K mg base (k + 1) x ps (spN K Tb R) := by
  refine ⟨f, fd, F.okX Sc (fun vs H Q E h => ?_) (fun cdv A outer s H vs Q E hr h => ?_), hm, F.kp, hb⟩
  · obtain ⟨F, ds, o, _, _, hd, r, _⟩ := h
    exact (dps_len hd).trans (hlen ds o r)
  · obtain ⟨F1, ds, o, sb, ht, hd, r, q⟩ := h
    obtain ⟨t, h1, h2⟩ := body cdv A outer s H E hr
    exact ⟨t, h1, h2 ds o F1 H Q r q _ F1 H (holds_start sb ht hd)⟩
end
/-- f(..), f a def that may raise; W tells what is done then -/
theorem pe_dfN {X : Cx} {k j : Nat} {x : Str} {ps : List Str} {sp : Sp} {e : Expr} {es : List Expr} {t : TA} {p pos : Pos} {W : WX} (D : DfN X.prog X.w X.K X.mg X.base j x ps sp) (hr : Room k X.A) (hj : j ≤ k) (hg : Gl X x) (tk : Takes X W) (ha : PA X (e :: es) t) (hdb : (x == ("__debug__" : Str)) = false := by decide)
    (he : starEach (e :: es) X.env = (false, eval e X.env) :: starEach es X.env := by rfl) (hpl : (backTo pos (starEach es X.env)).any (·.1) = false := by rfl) : PE X (.Call (.Name x p) (e :: es) [] pos) (tCallS sp (WE W) t) := by
  obtain ⟨f, fd, F, hm, hk, hb⟩ := D.ex
  exact pe_callS F (hr.mono hj) hg hm hk hb (fun σ => passAt tk σ) ha hdb he hpl
/-- what the text says of an own class without __init__, under ValueError -/
structure XcOk (K : PySem.W.Frag) (mg : Str → Option Value) (x : Str) (C : Addr) : Prop where
  gC : mg x = some (.ref C)
  q : PySem.W.excIn K C [.type "ValueError", .type "Exception", .type "BaseException", .type "object"] "ValueError.__new__" = true
  kC : PySem.W.keepIn K (.ref C) = true
  sB : PySem.W.subIn K (.ref C) (.type "BaseException") = some true
  tC : PySem.W.typeIn K (.ref C) = some (.type "type")
/-- raise C('m') -/
theorem ps_raiseN {X : Cx} {x m : Str} {C : Addr} {j : Nat} {p p2 pos pos2 : Pos} {W : WX} (hc : X.calm = true) (T : XcOk X.K X.mg x C) (tk : Takes X W) (hg : Gl X x) (hdb : (x == ("__debug__" : Str)) = false := by decide) :
    PS X (.Raise (some (.Call (.Name x p) [.Constant (.str m) j p2] [] pos)) none pos2) (fun _ σ H => W (.ref C) none σ H) :=
  ps_raise hc tk (pmk_own F.excBase_ValueError T.q T.gC T.kC (raises_own T.sB T.tC) hg hdb)
/-- isinstance(e, c), e the exception that the suite holds, whatever its class -/
def rIsN (K : PySem.W.Frag) (cls : Value) (d : Option Addr) (a : Addr) : List V → Hp → VK → Prop := fun xs H Q => ∃ D, cls = .ref D ∧ d = none ∧ ExcC K D ∧ rIsE K D a xs H Q
theorem call_isN {X : Cx} {a : Addr} {cls : Value} {d : Option Addr} {oe : Obj} {pn : List (Addr × Obj)} (hz : Zc cls d oe) (hf : ∃ vs, oe.data = .fields vs) : CallR (X.suite a ((a, oe) :: pn)) (.builtin "isinstance") (rIsN X.K cls d a) := by
  intro pins s σ H xs us Q I r h
  obtain ⟨D, rfl, rfl, C, h⟩ := h
  exact call_isE C hz hf pins s σ H xs us Q I r h
/-- what the text says of isinstance's answer for the class D, asked for C2 -/
structure IsN (K : PySem.W.Frag) (D C2 : Addr) (b : Bool) : Prop where
  c : ExcC K D
  k : PySem.W.kitOne K (.ref D) (.ref C2) = some b
section
variable {g : Gd} {G : List Sl} {te tf : TE} {ta : TA} {d x : PyData} {ds : List PyData} {i j : Nat} {D : Ends} {Ek : XK} {C C2 : Addr}
theorem s_raiseN (k : XnOk g Ek C) : S g (fun _ σ H => Ek (.ref C) none H) D G := fun σ F H hh => k F H hh.st
theorem e_callN {R : List PyData → OutN → Prop} {Es : L2.St → XK} (h : A g ta G ds) (r : R ds (.val d)) : E g (tCallS (spN g.K g.T R) Es ta) G d := fun σ F H hh Q q => h σ F H hh _ fun vs F1 H1 s1 d1 =>
  ⟨F1, ds, .val d, s1.i, (hh.mono s1).tab, d1, r, fun v F2 H2 s2 d2 => q v F2 H2 (s1.trans s2) d2⟩
/-- te raises C, whatever is wished of a value -/
def XE1 (g : Gd) (te : TE) (G : List Sl) (W : L2.St → Hp → Prop) : Prop := ∀ σ F H, Holds g G σ F H → (∀ F' H', Stp F H F' H' → W σ H') → ∀ Q : VK, te σ H Q
def XA1 (g : Gd) (ta : TA) (G : List Sl) (W : L2.St → Hp → Prop) : Prop := ∀ σ F H, Holds g G σ F H → (∀ F' H', Stp F H F' H' → W σ H') → ∀ Q : List V → Hp → Prop, ta σ H Q
theorem xn_call {R : List PyData → OutN → Prop} {Es : L2.St → XK} (h : A g ta G ds) (r : R ds (.exc C)) : XE1 g (tCallS (spN g.K g.T R) Es ta) G fun σ H' => Es σ (.ref C) none H' := fun σ F H hh k Q => h σ F H hh _ fun vs F1 H1 s1 d1 =>
  ⟨F1, ds, .exc C, s1.i, (hh.mono s1).tab, d1, r, fun F2 H2 s2 => k F2 H2 (s1.trans s2)⟩
theorem xn_here {W : L2.St → Hp → Prop} {tr : TA} (h : XE1 g te G W) : XA1 g (tCons te tr) G W := fun σ F H hh k Q => h σ F H hh k _
theorem xn_there {W : L2.St → Hp → Prop} {tr : TA} (h0 : E g tf G d) (h : XA1 g tr G W) : XA1 g (tCons tf tr) G W := fun σ F H hh k Q => h0 σ F H hh _ fun v F1 H1 s1 _ => h σ F1 H1 (hh.mono s1) (fun F2 H2 s2 => k F2 H2 (s1.trans s2)) _
theorem xn_tup {W : L2.St → Hp → Prop} (h : XA1 g ta G W) : XE1 g (tTup ta) G W := fun σ F H hh k Q => h σ F H hh k _
/-- the statement f(..) -/
theorem q_dropX {tw : TS} {W : L2.St → Hp → Prop} (h : XE1 g te G W) (k : ∀ σ F H, Holds g G σ F H → W σ H) : S g (tSeq (tDrop te) tw) D G := fun σ F H hh => h σ F H hh (fun F' H' s => k σ F' H' (hh.mono s)) _
/-- try: return e / except c as n: suite -/
theorem s_tryN {c : Value} {te : WX → TE} {ts : Addr → Value → Option Addr → TS} {Wout : WX} {o : OutN} (hv : ∀ d, o = .val d → (∀ W, E g (te W) G d) ∧ Rt g D.rt d)
    (hx : ∀ C, o = .exc C → (∀ W, XE1 g (te W) G fun σ H' => W (.ref C) none σ H') ∧ PySem.W.exmOne g.K (.ref C) c = some true ∧
      ∀ a F1, S { g with Fl := F1 } (ts a (.ref C) none) { nx := fun σ' H' => D.nx (σ'.set i none) H', rt := D.rt, bk := fun σ' H' => D.bk (σ'.set i none) H', ct := fun σ' H' => D.ct (σ'.set i none) H' } (G.set i (.raw (.ref a)))) :
    S g (fun D σ H => tRet (te (wAs g.K c i ts Wout D)) D σ H) D G := fun σ F H hh => by
  cases o with
  | val d =>
    obtain ⟨h1, h2⟩ := hv d rfl
    exact s_ret (h1 _) h2 σ F H hh
  | exc C =>
    obtain ⟨h1, em, hs⟩ := hx C rfl
    refine h1 _ σ F H hh (fun F' H' s => ⟨true, em, fun _ a _ => ?_, fun z => by cases z⟩) _
    have h3 := ((hh.mono s).set (i := i) (v := .ref a) (s := .raw (.ref a)) rfl fun z => by cases z)
    exact hs a F' _ F' H' ⟨h3.len, h3.st, h3.sl, h3.apart, h3.tab, Ex.refl _⟩
/-- isinstance(e, C2) in the suite -/
theorem e_isN {a : Addr} {b : Bool} (hi : G[i]? = some (.raw (.ref a))) (T : IsN g.K C C2 b) : E g (tCB (rIsN g.K (.ref C) none a) (tCons (tVar i) (tCons (tC (.ref C2)) tNil))) G (.bool b) := fun σ F H hh Q q => by
  obtain ⟨o, eo, ok⟩ := hh.at_ hi
  obtain rfl : o = some (.ref a) := ok
  exact ⟨.ref a, eo, C, rfl, rfl, T.c, .ref C2, .ref C2, b, rfl, fun u r => r, T.k, q _ F H (Stp.refl hh.st.i) (.bl b)⟩
end
end DW
namespace DW
open PySem PySem.Spec PyProof.Rows L2
/-- the name of an own class -/
theorem pe_cls {X : Cx} {x : Str} {C : Addr} {pos : Pos} (T : XcOk X.K X.mg x C) (hg : Gl X x) (hd : (x == ("__debug__" : Str)) = false := by decide) : PE X (.Name x pos) (tC (.ref C)) := pe_glob hg T.gC rfl hd
theorem xc_names {X : Cx} {x : Str} {C : Addr} (T : XcOk X.K X.mg x C) (hg : Gl X x) (hd : (x == ("__debug__" : Str)) = false := by decide) : Names X x (.ref C) := ⟨hg, hd, .inl T.gC⟩
end DW

/-! own dicts by text keys: d.setdefault(k, v), list(d.items()) -/
namespace DW
open PySem PySem.Spec PyProof.Rows L2
theorem paired_imp {α β : Type} {R S : α → β → Prop} : ∀ {xs : List α} {ys : List β}, Paired R xs ys → (∀ x ∈ xs, ∀ y, R x y → S x y) → Paired S xs ys
  | _, _, .nil, _ => .nil
  | _, _, .cons h t, f => .cons (f _ List.mem_cons_self _ h) (paired_imp t fun x hx => f x (List.mem_cons_of_mem _ hx))
def itD (p : Str × PyData) : PyData := .tuple [.str p.1, p.2]
theorem dps_items {K : PySem.W.Frag} {F : Hp} : ∀ {ts : List Addr} {vs : List (Key × V)} {kvs : List (Str × PyData)}, Paired (fun (t : Addr) (q : Key × V) => F t = some (.tup [kV q.1, q.2])) ts vs → KvOk K F vs kvs → DpAll K F (ts.map V.ref) (kvs.map itD)
  | _, _, [], .nil, _ => .nil
  | _, _, _ :: _, .nil, h => by cases h.ks
  | _, _, [], .cons _ _, h => by cases h.ks
  | _, _, p :: kvs, .cons e t, h => by
    obtain ⟨a, b, c⟩ := kv_cons h
    refine .cons ?_ (dps_items t c)
    rw [a] at e
    exact .tup (.inl (.inl e)) (.cons (.str _) (.cons b .nil))
section
variable {g : Gd} {G : List Sl} {ty tx : TE} {d : PyData} {kvs : List (Str × PyData)} {i : Nat} {D : Ends}
/-- list(d.items()) -/
theorem el_items (h : G[i]? = some (.od kvs)) : EL g (LiI.tListItems (tVar i)) G (kvs.map itD) := fun σ F H hh Q q => by
  obtain ⟨o, ev, p, vs, rfl, h0, hF, hH, hd⟩ := hh.at_ h
  refine ⟨.ref p, ev, p, vs, rfl, hH, fun H' l ts hk hl ht hn hL hp => ?_⟩
  have tp : ∀ t ∈ ts, ∃ xs, H' t = some (.tup xs) := fun t htt => by
    obtain ⟨_, y, _, _, e⟩ := LiI.paired_ix hp htt
    exact ⟨_, e⟩
  have old : ∀ a u, F a = some u → a ∉ ts := fun a u e z => by
    have := hh.st.i.ex a u e (fun ps w => hh.st.i.nt a ps (by rw [e, w]))
    rw [ht a z] at this; cases this
  obtain ⟨F', fi, fo⟩ : ∃ F' : Hp, (∀ t ∈ ts, F' t = H' t) ∧ ∀ a, a ∉ ts → F' a = F a := by
    refine ⟨fun a => if a ∈ ts then H' a else F a, fun t h => if_pos h, fun a h => if_neg h⟩
  have st : Stp F H F' H' := by
    refine ⟨fun a u e n => by rw [fo a (old a u e)]; exact e, ⟨fun a u e n => ?_, fun a ps e => ?_⟩, fun a u e _ => hk a u e, fun a u e => ⟨u, hk a u e⟩, fun P t => ?_, fun a u e n => ?_⟩
    · by_cases z : a ∈ ts
      · rw [fi a z] at e; exact e
      · rw [fo a z] at e; exact hk a u (hh.st.i.ex a u e n)
    · by_cases z : a ∈ ts
      · obtain ⟨xs, hx⟩ := tp a z
        rw [fi a z, hx] at e; cases e
      · rw [fo a z] at e; exact hh.st.i.nt a ps e
    · obtain ⟨ps, e, r⟩ := t
      exact ⟨ps, hk _ _ e, r⟩
    · have z : a ∉ ts := fun z => by rw [ht a z] at e; cases e
      rw [fo a z]; exact n
  refine q l (ts.map V.ref) F' H' st hl (by rw [fo l hn]; exact hh.st.i.free hl) hL ?_
  exact dps_items (paired_imp hp fun t htt y e => by rw [fi t htt]; exact e) (hd.mono st.f)
/-- d.setdefault(k, v) -/
theorem s_dset {k : Str} (h : G[i]? = some (.od kvs)) (hk : E g ty G (.str k)) (hv : E g tx G d) (hz : kvs.length < 100000) (h1 : ∀ d', getK kvs k = some d' → N g D.nx G) (h2 : getK kvs k = none → N g D.nx (G.set i (.od (putD kvs k d)))) :
    S g (tDrop (tDSetd (tVar i) ty tx)) D G := fun σ F H hh => by
  obtain ⟨o, e, p, vs, ev, h0, hF, hH, hd⟩ := hh.at_ h
  subst ev
  refine ⟨.ref p, e, p, rfl, .inl ⟨vs, .inl hH⟩, hk σ F H hh _ fun u F1 H1 s1 d1 => hv σ F1 H1 (hh.mono s1) _ fun v F2 H2 s2 d2 => ?_⟩
  cases d1
  have s := s1.trans s2
  have hH2 := s.h.dk hH
  have hF2 := s.n p _ hH hF
  refine ⟨vs, .inr k, hH2, rfl, Nat.lt_of_lt_of_le (by rw [kv_len hd]; exact hz) (by decide), fun v' hv' => ?_, fun hn => ?_⟩
  · cases q : getK kvs k with
    | none => rw [(kv_get hd).2 q] at hv'; cases hv'
    | some d' => exact h1 d' q σ F2 H2 (hh.mono s)
  · have q : getK kvs k = none := by
      cases q : getK kvs k with
      | none => rfl
      | some d' =>
        obtain ⟨v', e1, _⟩ := (kv_get hd).1 d' q
        rw [hn] at e1; cases e1
    have hi : i < σ.length := (List.getElem?_eq_some_iff.mp e).1
    have hs : σ.set i (some (.ref p)) = σ := by
      apply List.ext_getElem?
      intro j
      by_cases hj : i = j
      · subst hj; rw [List.getElem?_set_self hi, e]
      · rw [List.getElem?_set_ne hj]
    have base := hh.mono s
    have g1 : Holds g (G.set i .un) σ F2 H2 := base.weak (by rw [List.length_set]) fun j s ej => by
      by_cases hj : i = j
      · subst hj; rw [List.getElem?_set_self (by rw [← hh.len]; exact hi)] at ej; cases ej; exact .inl rfl
      · rw [List.getElem?_set_ne hj] at ej; exact .inr ej
    have other : ∀ (j : Nat) (t : Sl), j ≠ i → G[j]? = some t → t.mine = true → σ[j]? ≠ some (some (.ref p)) := fun j t hj ej m z => hj (hh.apart j i t (.od kvs) p ej h m rfl z e)
    have g2 : Holds g (G.set i .un) σ F2 (upd H2 p (.dK (putK vs (Sum.inr k : Key) v))) := g1.mut h0 hF2 hH2 (fun _ z => by cases z) fun j t ej m => by
      by_cases hj : i = j
      · subst hj; rw [List.getElem?_set_self (by rw [← hh.len]; exact hi)] at ej; cases ej; cases m
      · rw [List.getElem?_set_ne hj] at ej; exact other j t (Ne.symm hj) ej m
    have g3 := g2.set (i := i) (v := .ref p) (s := .od (putD kvs k d)) ⟨p, _, rfl, h0, hF2, upd_same, kv_put (hd.mono s.f) d2⟩ fun _ j t hj ej m => by
      rw [List.getElem?_set_ne (Ne.symm hj)] at ej; exact other j t hj ej m
    rw [List.set_set, hs] at g3
    exact h2 q σ F2 _ g3
end
end DW

/-! max of three ints, a, b = x, y, tuple + tuple -/
namespace DW
open PySem PySem.Spec PyProof.Rows L2
def max3 (a b c : Int) : Int := if decide ((if decide (a < b) = true then b else a) < c) = true then c else (if decide (a < b) = true then b else a)
theorem nu_max2 (a b : Int) : nuMax2 (.int a) (.int b) = some (.int (if decide (a < b) = true then b else a)) := by
  show some (if decide (a < b) = true then V.int b else V.int a) = _
  split <;> rfl
theorem nu_max3 (a b c : Int) : nuMax3 (.int a) (.int b) (.int c) = some (.int (max3 a b c)) := by
  unfold nuMax3
  rw [nu_max2]
  exact nu_max2 _ c
theorem uMax3 {X : Cx} (hc : X.calm = true) : CallR X (.builtin "max") (rNuC3 nuMax3) := call_max3Nu hc
section
variable {g : Gd} {G : List Sl} {te tf : TE} {ta : TA} {d x y : PyData} {ds es : List PyData} {i j : Nat} {D : Ends} {tw : TS}
theorem max3_i {a b c : Int} : C1 g (rNuC3 nuMax3) [.int a, .int b, .int c] (.int (max3 a b c)) := fun vs H h Q q => by
  cases h with
  | cons h1 h => cases h with
    | cons h2 h => cases h with
      | cons h3 h => cases h; cases h1; cases h2; cases h3; exact ⟨_, _, _, _, rfl, nu_max3 a b c, q _ (.int _)⟩
/-- a, b = x, y -/
theorem s_par (h : A g ta G [x, y]) (k : N g D.nx ((G.set i (.fz x)).set j (.fz y))) : S g (tPar i j ta) D G := fun σ F H hh => h σ F H hh _ fun vs F1 H1 s1 d1 => by
  cases d1 with
  | cons a t => cases t with
    | cons b t => cases t; exact ⟨_, _, rfl, k _ F1 H1 (((hh.mono s1).setF a).setF b)⟩
theorem q_par (h : A g ta G [x, y]) (k : S g tw D ((G.set i (.fz x)).set j (.fz y))) : S g (tSeq (tPar i j ta) tw) D G := s_par (D := { D with nx := tw D }) h k
/-- tuple + tuple -/
theorem uCatK {X : Cx} (K : PySem.W.Frag) (h : X.K = K := by rfl) : OpR X (binaryOp .Add) (rCatA K) := h ▸ op_catA
theorem cat_t (h : ds.length + es.length ≤ 100000) : R g (rCatA g.K) (.tuple ds) (.tuple es) (.tuple (ds ++ es)) := fun u v F H e hu hv Q q => by
  obtain ⟨a, vs, rfl, h1, h2⟩ := dp_tq hu
  obtain ⟨b, ws, rfl, h3, h4⟩ := dp_tq hv
  refine ⟨a, b, vs, ws, rfl, rfl, e.ex.t h1, e.ex.t h3, by rw [dps_len h2, dps_len h4]; exact Nat.le_trans h (by decide), fun z => ?_, fun z z2 => ?_, fun z z2 p hp => ?_⟩
  · subst z
    have : ds = [] := by cases h2; rfl
    subst this
    exact q (.ref b) F H (Stp.refl e) hv
  · subst z2
    have : es = [] := by cases h4; rfl
    subst this
    rw [List.append_nil] at q
    exact q (.ref a) F H (Stp.refl e) hu
  · have st := Stp.new (o := .tup (vs ++ ws)) e hp fun _ z => by cases z
    exact q (.ref p) _ _ st (.tup (.inl (.inl upd_same)) (st.f.dps _ _ (dps_app h2 h4)))
/-- tuple + (e,), e known by a property -/
theorem ep_catT {P P1 : PyData → Prop} (ha : E g te G (.tuple ds)) (h : EP g tf G P1) (m : ∀ d, P1 d → P (.tuple (ds ++ [d]))) (hz : ds.length < 100000) : EP g (tOp (rCatA g.K) te (tTup (tCons tf tNil))) G P := fun σ F H hh Q q =>
  ha σ F H hh _ fun u F1 H1 s1 d1 => h σ F1 H1 (hh.mono s1) _ fun v F2 H2 d s2 p2 d2 => ⟨by show 1 ≤ sizeLine; decide, fun p hp => by
    have st := Stp.new (o := .tup [v]) s2.i hp fun _ z => by cases z
    have s := (s1.trans s2).trans st
    exact cat_t (g := g) (ds := ds) (es := [d]) (by show _ + 1 ≤ _; omega) u (.ref p) _ _ st.i ((s2.trans st).f.dp _ u d1) (.tup (.inl (.inl upd_same)) (.cons (st.f.dp d v d2) .nil)) Q fun z F' H' s3 d3 => q z F' H' _ (s.trans s3) (m d p2) d3⟩
end
end DW

/-! dicts keyed by tuples of any depth: {k: v for .. in ..}, k in d, d.get(k, x) -/
namespace DW
open PySem PySem.Spec PyProof.Rows L2
mutual
def nk : PyData → NestedKey
  | .none => .none
  | .bool b => .num (if b = true then 1 else 0)
  | .int i => .num i
  | .str x => .text x
  | .tuple ds => .tup (nks ds)
  | .list _ => .none
  | .dict _ => .none
def nks : List PyData → List NestedKey
  | [] => []
  | d :: ds => nk d :: nks ds
end
mutual
/-- no list, no dict, no truth value -/
def kyD : PyData → Bool
  | .none => true
  | .bool _ => false
  | .int _ => true
  | .str _ => true
  | .tuple ds => kyDs ds
  | .list _ => false
  | .dict _ => false
def kyDs : List PyData → Bool
  | [] => true
  | d :: ds => kyD d && kyDs ds
end
mutual
theorem nk_inj : ∀ (a b : PyData), kyD a = true → kyD b = true → nk a = nk b → a = b
  | .none, b, _, hb, e => by cases b <;> first | rfl | (simp [nk] at e; done) | (simp [kyD] at hb; done)
  | .bool _, _, h, _, _ => by cases h
  | .int i, b, _, hb, e => by cases b <;> first | (simp [kyD] at hb; done) | (simp only [nk, NestedKey.num.injEq] at e; rw [e]) | (simp [nk] at e; done)
  | .str x, b, _, hb, e => by cases b <;> first | (simp [kyD] at hb; done) | (simp only [nk, NestedKey.text.injEq] at e; rw [e]) | (simp [nk] at e; done)
  | .tuple ds, .tuple es, ha, hb, e => by
    simp only [nk, NestedKey.tup.injEq] at e
    rw [nks_inj ds es ha hb e]
  | .tuple _, .none, _, _, e => by simp [nk] at e
  | .tuple _, .bool _, _, h, _ => by cases h
  | .tuple _, .int _, _, _, e => by simp [nk] at e
  | .tuple _, .str _, _, _, e => by simp [nk] at e
  | .tuple _, .list _, _, h, _ => by cases h
  | .tuple _, .dict _, _, h, _ => by cases h
  | .list _, _, h, _, _ => by cases h
  | .dict _, _, h, _, _ => by cases h
theorem nks_inj : ∀ (a b : List PyData), kyDs a = true → kyDs b = true → nks a = nks b → a = b
  | [], [], _, _, _ => rfl
  | [], _ :: _, _, _, e => by cases e
  | _ :: _, [], _, _, e => by cases e
  | a :: as, b :: bs, ha, hb, e => by
    have h1 : (kyD a && kyDs as) = true := ha
    have h2 : (kyD b && kyDs bs) = true := hb
    rw [Bool.and_eq_true] at h1 h2
    injection e with e1 e2
    rw [nk_inj a b h1.1 h2.1 e1, nks_inj as bs h1.2 h2.2 e2]
end
section
variable {X : Cx} {pins : List (Addr × Obj)} {σ : L2.St} {H : Hp} {s : Shared}
mutual
theorem dp_nested (I : Inv X pins σ H s) : ∀ (d : PyData) (v : V) (u : Value), kyD d = true → Dp X.K H v d → RelV v u → NestedIs s.heap (nk d) u
  | .none, _, u, _, h, r => by
    cases h
    cases (show u = .none from r)
    exact .none
  | .bool _, _, _, k, _, _ => by cases k
  | .int i, _, u, _, h, r => by
    cases h
    obtain ⟨t, rfl⟩ := r
    exact .int i t
  | .str x, _, u, _, h, r => by
    cases h
    obtain ⟨t, rfl⟩ := r
    exact .text x t
  | .tuple ds, _, u, k, h, r => by
    cases h with
    | tup h1 h2 =>
      cases r
      obtain ⟨its, rv, ⟨o, e1, e2, n, e3⟩, _⟩ := I.tuple h1
      exact .tup e1 e2 e3 (by rw [List.toList_toArray]; exact dps_nested I ds _ _ k h2 rv)
  | .list _, _, _, k, _, _ => by cases k
  | .dict _, _, _, k, _, _ => by cases k
theorem dps_nested (I : Inv X pins σ H s) : ∀ (ds : List PyData) (vs : List V) (us : List Value), kyDs ds = true → DpAll X.K H vs ds → Vals vs us → NestedAll s.heap (nks ds) us
  | [], _, _, _, h, r => by cases h; cases r; exact .nil
  | d :: ds, _, _, k, h, r => by
    have k' : (kyD d && kyDs ds) = true := k
    rw [Bool.and_eq_true] at k'
    cases h with
    | cons h1 h2 =>
      cases r with
      | cons r1 r2 => exact .cons (dp_nested I d _ _ k'.1 h1 r1) (dps_nested I ds _ _ k'.2 h2 r2)
end
end

/-! ### the object -/
abbrev NE := NestedKey × Addr × V
def NdRel : List NE → List (NestedKey × Addr × Value) → Prop := Paired fun p q => p.1 = q.1 ∧ p.2.1 = q.2.1 ∧ RelV p.2.2 q.2.2
def ndO (P : Program) (w : World) (D : Addr) (kvs : List NE) : HO := .ext fun h => kvs.length ≤ sizeLine ∧ (D == sysModules) = false ∧ ∃ xs, NdRel kvs xs ∧ ∃ o es ep, h.get? D = some o ∧ o.ExactDict ∧ o.data = .dict es ep ∧ es.toList = xs.map (entryOfKey (nestedKind P w)) ∧ (xs.map (·.1)).Nodup
def atV (kvs : List NE) (k : NestedKey) : Option (Addr × V) := (kvs.find? fun x => decide (x.1 = k)).map (·.2)
def storeV (kvs : List NE) (k : NestedKey) (a : Addr) (v : V) : List NE := if (atV kvs k).isSome = true then kvs.map (fun x => if x.1 = k then (x.1, x.2.1, v) else x) else kvs ++ [(k, a, v)]
theorem ndr_at (k : NestedKey) : ∀ {kvs : List NE} {xs : List (NestedKey × Addr × Value)}, NdRel kvs xs → (atV kvs k = none ∧ atKey xs k = none) ∨ ∃ a v u, atV kvs k = some (a, v) ∧ atKey xs k = some (a, u) ∧ RelV v u
  | _, _, .nil => .inl ⟨rfl, rfl⟩
  | p :: ps, q :: qs, .cons h t => by
    obtain ⟨h1, h2, h3⟩ := h
    unfold atV atKey
    rw [List.find?_cons, List.find?_cons, ← h1]
    by_cases e : p.1 = k
    · rw [decide_eq_true e]
      exact .inr ⟨p.2.1, p.2.2, q.2.2, rfl, by rw [h2]; rfl, h3⟩
    · rw [decide_eq_false e]
      exact ndr_at k t
theorem ndr_map (k : NestedKey) {v : V} {u : Value} (r : RelV v u) : ∀ {kvs : List NE} {xs : List (NestedKey × Addr × Value)}, NdRel kvs xs → NdRel (kvs.map (fun x => if x.1 = k then (x.1, x.2.1, v) else x)) (xs.map (putAt k u))
  | _, _, .nil => .nil
  | p :: ps, q :: qs, .cons h t => by
    obtain ⟨h1, h2, h3⟩ := h
    rw [List.map_cons, List.map_cons]
    refine .cons ?_ (ndr_map k r t)
    unfold putAt
    rw [← h1]
    by_cases e : p.1 = k
    · rw [if_pos e, if_pos e]; exact ⟨rfl, h2, r⟩
    · rw [if_neg e, if_neg e]; exact ⟨h1, h2, h3⟩
theorem ndr_app {k : NestedKey} {a : Addr} {v : V} {u : Value} (r : RelV v u) : ∀ {kvs : List NE} {xs : List (NestedKey × Addr × Value)}, NdRel kvs xs → NdRel (kvs ++ [(k, a, v)]) (xs ++ [(k, a, u)])
  | _, _, .nil => .cons ⟨rfl, rfl, r⟩ .nil
  | _ :: _, _ :: _, .cons h t => .cons h (ndr_app r t)
theorem ndr_store {k : NestedKey} {a : Addr} {v : V} {u : Value} (r : RelV v u) {kvs : List NE} {xs : List (NestedKey × Addr × Value)} (h : NdRel kvs xs) : NdRel (storeV kvs k a v) (storedH xs k a u) := by
  unfold storeV storedH
  rcases ndr_at k h with ⟨e1, e2⟩ | ⟨b, z, y, e1, e2, _⟩
  · rw [e1, e2]; exact ndr_app r h
  · rw [e1, e2]; exact ndr_map k r h
theorem storeV_len (kvs : List NE) (k : NestedKey) (a : Addr) (v : V) : (storeV kvs k a v).length ≤ kvs.length + 1 := by
  unfold storeV
  split
  · rw [List.length_map]; omega
  · rw [List.length_append]; exact Nat.le_refl _
def KeyAt (K : PySem.W.Frag) (H : Hp) (k : NestedKey) (a : Addr) : Prop := ∃ d, kyD d = true ∧ nk d = k ∧ k.depth ≤ 8 ∧ Dp K H (.ref a) d
def KeysAt (K : PySem.W.Frag) (H : Hp) (kvs : List NE) : Prop := ∀ p ∈ kvs, KeyAt K H p.1 p.2.1
theorem KeyAt.mono {K : PySem.W.Frag} {F H : Hp} (e : Ex F H) {k : NestedKey} {a : Addr} : KeyAt K F k a → KeyAt K H k a := fun ⟨d, h1, h2, h3, h4⟩ => ⟨d, h1, h2, h3, e.dp d _ h4⟩
section
variable {X : Cx} {pins : List (Addr × Obj)} {σ : L2.St} {H : Hp} {s : Shared} {D a : Addr} {kvs : List NE} {k : NestedKey}
theorem key_is (I : Inv X pins σ H s) (h : KeyAt X.K H k a) : (nestedKind X.prog X.w).is s.heap k a := by
  obtain ⟨d, h1, rfl, h3, h4⟩ := h
  exact ⟨dp_nested I d _ _ h1 h4 rfl, h3⟩
theorem ndr_mem : ∀ {kvs : List NE} {xs : List (NestedKey × Addr × Value)}, NdRel kvs xs → ∀ x ∈ xs, ∃ p ∈ kvs, p.1 = x.1 ∧ p.2.1 = x.2.1
  | _, _, .nil, x, hx => by cases hx
  | p :: _, _ :: _, .cons h t, x, hx => by
    rcases List.mem_cons.mp hx with rfl | hx
    · exact ⟨p, List.mem_cons_self, h.1, h.2.1⟩
    · obtain ⟨p', m, r⟩ := ndr_mem t x hx
      exact ⟨p', List.mem_cons_of_mem _ m, r⟩
theorem nd_of (I : Inv X pins σ H s) (e : H D = some (ndO X.prog X.w D kvs)) (ks : KeysAt X.K H kvs) : kvs.length ≤ sizeLine ∧ (D == sysModules) = false ∧ ∃ xs, NdRel kvs xs ∧ s.heap.DictOfH (nestedKind X.prog X.w) D xs := by
  obtain ⟨⟨z, y, xs, r, o, es, ep, h1, h2, h3, h4, h5⟩, _, _⟩ := (show ObjOk X.prog X.w H s.heap D (ndO X.prog X.w D kvs) from I.hok D _ e)
  refine ⟨z, y, xs, r, o, es, ep, h1, h2, h3, h4, fun x hx => ?_, h5⟩
  obtain ⟨p, m, e1, e2⟩ := ndr_mem r x hx
  rw [← e1, ← e2]
  exact key_is I (ks p m)
theorem nd_new {P : Program} {w : World} {H' : Hp} {h' : Heap} {xs : List (NestedKey × Addr × Value)} (z : kvs.length ≤ sizeLine) (hd : (D == sysModules) = false) (rel : NdRel kvs xs) (dd : h'.DictOfH (nestedKind P w) D xs) :
    ObjOk P w H' h' D (ndO P w D kvs) := by
  obtain ⟨o, es, ep, h1, h2, h3, h4, _, h5⟩ := dd
  refine ⟨⟨z, hd, xs, rel, o, es, ep, h1, h2, h3, h4, h5⟩, ⟨o, h1⟩, fun g1 g2 ⟨z, y, xs, r, o, es, ep, h1, rest⟩ keep => ⟨z, y, xs, r, o, es, ep, keep o h1, rest⟩⟩
theorem nd_empty {P : Program} {w : World} {H : Hp} (h : Heap) (hb : sysModules < h.objs.size) : ObjOk P w H (h.push { cls := .type "dict", data := .dict #[] }) h.objs.size (ndO P w h.objs.size []) :=
  nd_new (xs := []) (Nat.zero_le _) (beq_eq_false_iff_ne.mpr (Ne.symm (Nat.ne_of_lt hb))) .nil ⟨_, #[], 0, Heap.get?_push_size _ rfl, ⟨rfl, rfl, rfl⟩, rfl, rfl, (fun _ hx => nomatch hx), List.nodup_nil⟩
variable {v : V} {r : Value} {A : Around} {E : Value → Shared → Prop}
theorem nd_write {h' : Heap} {t' : Nat} {xs : List (NestedKey × Addr × Value)} {r : Value} (I : Inv X pins σ H s) (e : H D = some (ndO X.prog X.w D kvs)) (hz : kvs.length < sizeLine) (hd : (D == sysModules) = false) (rel : NdRel kvs xs) (rv : RelV v r) (dd : h'.DictOfH (nestedKind X.prog X.w) D (storedH xs k a r)) (hs : Heap.SameBut D s.heap h') :
    Inv X pins σ (upd H D (ndO X.prog X.w D (storeV kvs k a v))) { s with heap := h', toks := t' } := by
  have he : ∃ q, h'.get? D = some q := let ⟨q, _, _, hq, _⟩ := dd; ⟨q, hq⟩
  exact d_write I (by rw [e]; exact True.intro) hs he (nd_new (Nat.le_trans (storeV_len _ _ _ _) hz) hd (ndr_store rv rel) dd)
theorem nd_dictSet {Q : Unit → Shared → Prop} (hu : A.units + 8 < cLine) (I : Inv X pins σ H s) (e : H D = some (ndO X.prog X.w D kvs)) (ks : KeysAt X.K H kvs) (key : KeyAt X.K H k a) (hz : kvs.length < sizeLine) (rv : RelV v r)
    (h : ∀ s', Inv X pins σ (upd H D (ndO X.prog X.w D (storeV kvs k a v))) s' → Q () s') : wpAny (model X.prog X.w) A (dictSet D (.ref a) r) Q E s := by
  obtain ⟨z, hd, xs, rel, dd⟩ := nd_of I e ks
  have hx : xs.length ≤ sizeLine := by rw [← Paired.length rel]; exact z
  exact wpAny_dictSet_heap (hsz := hx) hu (key_is I key) dd fun h' dd' hs => h _ (nd_write I e hz hd rel rv dd' hs)
end

/-! ### operators -/
def rInN (P : Program) (w : World) (K : PySem.W.Frag) : R2 := fun x y H Q => ∃ a D kvs k, x = .ref a ∧ y = .ref D ∧ H D = some (ndO P w D kvs) ∧ KeysAt K H kvs ∧ KeyAt K H k a ∧ Q (.bl (atV kvs k).isSome) H
def rNiN (P : Program) (w : World) (K : PySem.W.Frag) : R2 := fun x y H Q => ∃ a D kvs k, x = .ref a ∧ y = .ref D ∧ H D = some (ndO P w D kvs) ∧ KeysAt K H kvs ∧ KeyAt K H k a ∧ Q (.bl (!(atV kvs k).isSome)) H
section
variable {X : Cx}
theorem op_inN (hu : X.A.units + 64 < cLine) : OpR X (compareOp .In) (rInN X.prog X.w X.K) := by
  intro pins s σ H x y v u Q I rx ry h
  obtain ⟨a, D, kvs, k, rfl, rfl, e, ks, key, q⟩ := h
  cases (show v = Value.ref a from rx)
  cases (show u = Value.ref D from ry)
  obtain ⟨z, hd, xs, rel, dd⟩ := nd_of I e ks
  refine wpAny_in_heap (knd := nestedKind X.prog X.w) (show X.A.in1.units + 8 < cLine from by show X.A.units + 1 + 8 < cLine; omega) (key_is I key) hd dd ?_
  have q2 : (atKey xs k).isSome = (atV kvs k).isSome := by rcases ndr_at k rel with ⟨e1, e2⟩ | ⟨b, z, y, e1, e2, _⟩ <;> rw [e1, e2] <;> rfl
  rw [q2]
  exact ⟨V.bl _, H, I.tok _, rfl, q⟩
theorem op_niN (hu : X.A.units + 64 < cLine) : OpR X (compareOp .NotIn) (rNiN X.prog X.w X.K) := by
  intro pins s σ H x y v u Q I rx ry h
  obtain ⟨a, D, kvs, k, rfl, rfl, e, ks, key, q⟩ := h
  cases (show v = Value.ref a from rx)
  cases (show u = Value.ref D from ry)
  obtain ⟨z, hd, xs, rel, dd⟩ := nd_of I e ks
  refine wpAny_notIn_heap (knd := nestedKind X.prog X.w) (show X.A.in1.units + 8 < cLine from by show X.A.units + 1 + 8 < cLine; omega) (key_is I key) hd dd ?_
  have q2 : (atKey xs k).isSome = (atV kvs k).isSome := by rcases ndr_at k rel with ⟨e1, e2⟩ | ⟨b, z, y, e1, e2, _⟩ <;> rw [e1, e2] <;> rfl
  rw [q2]
  exact ⟨V.bl _, H, I.tok _, rfl, q⟩
theorem uInN {X : Cx} (P : Program) (w : World) (K : PySem.W.Frag) (hu : X.A.units + 64 < cLine) (hP : X.prog = P := by rfl) (hw : X.w = w := by rfl) (hK : X.K = K := by rfl) : OpR X (compareOp .In) (rInN P w K) := by subst hP hw hK; exact op_inN hu
theorem uNiN {X : Cx} (P : Program) (w : World) (K : PySem.W.Frag) (hu : X.A.units + 64 < cLine) (hP : X.prog = P := by rfl) (hw : X.w = w := by rfl) (hK : X.K = K := by rfl) : OpR X (compareOp .NotIn) (rNiN P w K) := by subst hP hw hK; exact op_niN hu
end
/-! d.get(k, x) -/
def tDGet2N (P : Program) (w : World) (K : PySem.W.Frag) (td ty tx : TE) : TE := fun σ H Q => td σ H fun x H1 => ∃ D kvs0, x = .ref D ∧ H1 D = some (ndO P w D kvs0) ∧ KeysAt K H1 kvs0 ∧ ty σ H1 fun y H2 => tx σ H2 fun z H3 => ∃ a kvs k, y = .ref a ∧ H3 D = some (ndO P w D kvs) ∧ KeysAt K H3 kvs ∧ KeyAt K H3 k a ∧ Q (((atV kvs k).map (·.2)).getD z) H3
section
variable {X : Cx} {o e f : Expr} {apos cpos : Pos} {td ty tx : TE}
theorem pe_dget2N (P : Program) (w : World) (K : PySem.W.Frag) (hu : X.A.units + 64 < cLine) (ho : PE X o td) (he : PE X e ty) (hf : PE X f tx) (m : M2 X o "get" apos e f cpos) (hP : X.prog = P := by rfl) (hw : X.w = w := by rfl) (hK : X.K = K := by rfl) : PE X (.Call (.Attribute o "get" apos) [e, f] [] cpos) (tDGet2N P w K td ty tx) := by
  subst hP hw hK
  refine ⟨fun pins s σ H Q I h => ?_⟩
  refine wpAny_Call_method m.base m.few m.line PySem.F.plainAttrs_dict PySem.F.slot_dict_get PySem.F.type_dict_get (thn (ho.run pins s σ H _ I h) fun u s1 ⟨x, H1, I1, rx, D, kvs0, ex, d0, ks0, q1⟩ => ?_)
  subst ex
  obtain rfl : u = Value.ref D := rx
  obtain ⟨_, _, xs0, _, dd0⟩ := nd_of I1 d0 ks0
  refine ⟨dd0.typeIs, fun b q => ?_, ?_⟩
  · cases q
    obtain ⟨ob, _, _, h1, h2, _⟩ := dd0
    exact ⟨ob, h1, h2.2.1⟩
  rw [m.trees]
  refine Calls.callWith_builtin rfl (Calls.evalArgs_plain (Calls.spliced_cons (thn (he.run pins s1 σ H1 _ I1 q1) fun iv s2 ⟨y, H2, I2, ry, q2⟩ =>
    Calls.spliced_cons (thn (hf.run pins s2 σ H2 _ I2 q2) fun fv s3 ⟨z, H3, I3, rz, a, kvs, k, ey, e3, ks3, key, q3⟩ => Calls.spliced_nil ?_))))
  subst ey
  obtain rfl : iv = Value.ref a := ry
  obtain ⟨_, hd, xs, rel, dd⟩ := nd_of I3 e3 ks3
  refine call_meetsIn PySem.F.slot_dict_get dd.typeIs PySem.F.entry_dict_get (PySem.F.args_dict_get_3 _ _ _) (meetsH_dict_get_default (nestedKind X.prog X.w) D a hd fv) ⟨show X.A.in1.units + 8 < cLine from (by show X.A.units + 1 + 8 < cLine; omega), k, xs, key_is I3 key, dd, ?_⟩
  rcases ndr_at k rel with ⟨e1, e2⟩ | ⟨b, z', u', e1, e2, rr⟩
  · rw [e1] at q3; rw [e2]
    exact ⟨_, H3, I3.tok _, rz, q3⟩
  · rw [e1] at q3; rw [e2]
    exact ⟨_, H3, I3.tok _, rr, q3⟩
end
end DW

/-! a dict comprehension, whatever its dict is held as -/
namespace DW
open PySem PySem.Spec PyProof.Rows L2
/-- how the dict of a comprehension is held: ini when it is empty, st what D[y] = z asks -/
structure DSto (X : Cx) (ini : Addr → HO) (st : Addr → V → V → Hp → (Hp → Prop) → Prop) : Prop where
  new : ∀ (h : Heap) (H : Hp), sysModules < h.objs.size → ObjOk X.prog X.w H (h.push { cls := .type "dict", data := .dict #[] }) h.objs.size (ini h.objs.size)
  put : ∀ {Y : Cx}, Y.prog = X.prog → Y.w = X.w → Y.K = X.K → Y.A = X.A → ∀ {pins : List (Addr × Obj)} {σ : L2.St} {H : Hp} {s : Shared} {D : Addr} {y z : V} {u r : Value} {Nx : Hp → Prop} {Q : Unit → Shared → Prop} {E : Value → Shared → Prop},
    L2.Inv Y pins σ H s → RelV y u → RelV z r → st D y z H Nx → (∀ H' s', Nx H' → L2.Inv Y pins σ H' s' → Q () s') → wpAny (model Y.prog Y.w) Y.A (dictSet D u r) Q E s
/-- one turn behind the target -/
def dcTurn (st : Addr → V → V → Hp → (Hp → Prop) → Prop) (tt : TT) (tk tv : TE) (D : Addr) (Nx : Hp → Prop) (σ : L2.St) (H : Hp) : Prop :=
  tt σ H fun b H1 => if b = true then tk σ H1 fun y H2 => tv σ H2 fun z H3 => st D y z H3 Nx else Nx H1
/-- {k: v for tg in iter if tt} -/
def tDcX (ini : Addr → HO) (st : Addr → V → V → Hp → (Hp → Prop) → Prop) (wi : TI) (g : TG) (tt : TT) (tk tv : TE) (vs : List Nat) : TE := fun σ H Q => wi σ H fun J H1 => ∀ D, H1 D = none →
  ∃ W : Nat → Nat → Hp → Prop, (∃ m, W 0 m (upd H1 D (ini D))) ∧ ∀ i m H', W i m H' → (J.stop i H' ∧ Q (.ref D) H') ∨
    (J.go i H' ∧ ∃ Nx : Hp → Prop, (∀ H2, Nx H2 → ∃ m', m' < m ∧ W (i + 1) m' H2) ∧ ∀ x H2, J.yld i H' x H2 → g x (wipe σ vs) H2 fun σ3 H3 => wipe σ3 vs = wipe σ vs ∧ dcTurn st tt tk tv D Nx σ3 H3)
section
variable {X : Cx}
theorem dcx_core {pins : List (Addr × Obj)} {s : Shared} {σ : L2.St} {H : Hp} {Q : VK} {kx vx tg iter : Expr} {ifs : List Expr} {scope : Scope} {own : List (Str × Nat)} {pos pos' : Pos} {wi : TI} {g : TG} {tt : TT} {tk tv : TE} {use : Option (Value → Sem Unit)} {Qf : Value → Shared → Prop}
    {ini : Addr → HO} {st : Addr → V → V → Hp → (Hp → Prop) → Prop} (ds : DSto X ini st) (hc : X.calm = true) (hN : X.N.Nodup) (I : L2.Inv X pins σ H s) (hi : PI X tg iter wi) (ok : BlkOk X.N X.env.scope scope own)
    (hg : ∀ (s : Shared) (H : Hp) (C : Addr) (cl : List (Str × Addr)) (fp : List Addr), PG (X.blk s H scope (compEnvC scope cl C X.env) fp) tg g)
    (ht : ∀ (s : Shared) (H : Hp) (C : Addr) (cl : List (Str × Addr)) (fp : List Addr), PTs (X.blk s H scope (compEnvC scope cl C X.env) fp) ifs tt)
    (hk : ∀ (s : Shared) (H : Hp) (C : Addr) (cl : List (Str × Addr)) (fp : List Addr), PE (X.blk s H scope (compEnvC scope cl C X.env) fp) kx tk)
    (hv : ∀ (s : Shared) (H : Hp) (C : Addr) (cl : List (Str × Addr)) (fp : List Addr), PE (X.blk s H scope (compEnvC scope cl C X.env) fp) vx tv) (hs : ∀ x, foldedSetIterable iter X.env x = pure x)
    (h : tDcX ini st wi g tt tk tv (own.map (·.2)) σ H Q)
    (fin : ∀ D C s' m H', L2.Inv X pins σ H' s' → Q (.ref D) H' → s'.heap.Ns C m → FpOk X pins H' C → compPost (model X.prog X.w) X.A X.xe use Qf (.ref D) C (.ok .next) s') :
    wpAny (model X.prog X.w) X.A (comprehension (.DictComp kx vx [⟨tg, iter, ifs, 0⟩] scope pos) scope X.env pos' newDict false (eval iter X.env) use) Qf X.xe s := by
  have cells : ∀ y ∈ scope.names, y.2 = .free → ∃ c, X.env.cells.lookup y.1 = some c := fun y hy e => (ok.free y hy e).elim (fun k => I.ok.has _ (.inl k)) fun k => I.ok.has _ (.inr k)
  refine wpAny_comprehension_free (use := use) rfl hs (closure_ok cells) ok.kind (fun y hy e => by rw [ok.uniq y hy, e]) ?_
  refine thn (hi.run pins s σ H _ I h) fun xv s1 hx => thn hx fun itv s2 h2 => ?_
  obtain ⟨it, fp, tn, J, H2, rfl, I2, T, st2, f2, q⟩ := h2
  refine wpAny_newObj_type (newEnv_comp ?_)
  generalize hD : s2.heap.objs.size = D
  have nD : H2 D = none := I2.hok.fresh (Nat.le_of_eq hD)
  obtain ⟨W, ⟨m0, w0⟩, turn⟩ := q D nD
  have below : ∀ b ∈ fp, b < D := fun b hb => by
    obtain ⟨o, e, _⟩ := T.obj _ _ st2 b hb
    exact hD ▸ Heap.lt_size e
  -- the new dict
  generalize es3 : ({ s2 with heap := s2.heap.push { cls := .type "dict", data := .dict #[] } } : Shared) = s3
  have h3 : s3.heap = s2.heap.push { cls := .type "dict", data := .dict #[] } := by rw [← es3]
  have up3 : ∀ b o, s2.heap.get? b = some o → s3.heap.get? b = some o := fun b o e => by rw [h3]; exact Heap.get?_push_of_some _ e
  have I3 : L2.Inv X pins σ (upd H2 D (ini D)) s3 := by
    subst hD
    rw [← es3]
    exact I2.laid (t' := s2.toks) (fun b o e => Heap.get?_push_of_some _ e) (Nat.le_refl _) (ds.new _ _ I2.big)
  have f3 : ∀ b ∈ fp, FpOk X pins (upd H2 D (ini D)) b ∧ b < s3.heap.objs.size := fun b hb => by
    refine ⟨⟨by rw [upd_ne (Nat.ne_of_lt (below b hb))]; exact (f2 b hb).1, (f2 b hb).2⟩, ?_⟩
    rw [h3, Heap.size_push, hD]
    exact Nat.lt_succ_of_lt (below b hb)
  obtain ⟨cl, ecl⟩ : ∃ cl, cl = cellsFrom (s3.heap.objs.size + 1) scope.names (cloFrom X.env.cells scope.names []) := ⟨_, rfl⟩
  have I4 := block_start I3 ok hN f3
  rw [← ecl] at I4
  obtain ⟨H3, eH3⟩ : ∃ H3, H3 = upd H2 D (ini D) := ⟨_, rfl⟩
  rw [← eH3] at I3 I4 w0 f3
  obtain ⟨ce, ece⟩ : ∃ ce, ce = compEnvC scope cl s3.heap.objs.size X.env := ⟨_, rfl⟩
  obtain ⟨B, eB⟩ : ∃ B : Cx, B = X.blk s3 H3 scope ce fp := ⟨_, rfl⟩
  have bP : B.prog = X.prog := by rw [eB]
  have bw : B.w = X.w := by rw [eB]
  have bK : B.K = X.K := by rw [eB]
  have bA : B.A = X.A := by rw [eB]
  have bc : B.calm = X.calm := by rw [eB]
  have be : B.env = ce := by rw [eB]
  have bx : B.xe = fun _ _ => False := by rw [eB]
  have pg : PG B tg g := by rw [eB, ece]; exact hg s3 H3 _ cl fp
  have pt : PTs B ifs tt := by rw [eB, ece]; exact ht s3 H3 _ cl fp
  have pk : PE B kx tk := by rw [eB, ece]; exact hk s3 H3 _ cl fp
  have pv : PE B vx tv := by rw [eB, ece]; exact hv s3 H3 _ cl fp
  have atB : ∀ {σ' : L2.St} {H' : Hp} {s' : Shared}, L2.Inv B [] σ' H' s' → (∀ b ∈ fp, H' b = none) → ∀ b ∈ fp, FpOk B [] H' b := fun {σ' H' s'} J hn b hb => by
    subst eB
    exact ⟨hn b hb, (J.ok.exf b hb).1, J.ok.exfs b hb, .inl hb, fun x c e => (J.ok.exf b hb).2 x c e, fun p hp => absurd (show p ∈ ([] : List (Addr × Obj)) ++ [] from hp) (by simp)⟩
  have back : ∀ {σ' : L2.St} {H' : Hp} {s' : Shared}, L2.Inv B [] σ' H' s' → L2.Inv X pins σ H' s' ∧ H' s3.heap.objs.size = none ∧ ∃ m, s'.heap.Ns s3.heap.objs.size m := fun {σ' H' s'} J => by
    subst eB ece
    exact ⟨I3.call' (ch := fp) J.os J.base J.hok J.bare fun b hb => ⟨(f3 b hb).1.2.2.2.1, (f3 b hb).1.2.1, (f3 b hb).1.2.2.2.2.1, (f3 b hb).1.2.2.2.2.2⟩, J.free, let ⟨m, hn, _⟩ := J.loc; ⟨m, hn⟩⟩
  show codeAny _ _ (.compStart (.DictComp kx vx [⟨tg, iter, ifs, 0⟩] scope pos) 0 (.ref it) (.ref D) (compEnvC scope (cellsFrom (s3.heap.objs.size + 1) scope.names (cloFrom X.env.cells scope.names [])) s3.heap.objs.size X.env)) (compPost (model X.prog X.w) X.A X.xe use Qf (.ref D) s3.heap.objs.size) { s3 with heap := pushCells (s3.heap.push { cls := .type "dict", data := .dict #[] }) scope.names }
  rw [← ecl, ← ece]
  obtain ⟨s4, es4⟩ : ∃ s4 : Shared, s4 = { s3 with heap := pushCells (s3.heap.push { cls := .type "dict", data := .dict #[] }) scope.names } := ⟨_, rfl⟩
  have J4 : L2.Inv B [] (wipe σ (own.map (·.2))) H3 s4 := by rw [es4, eB, ece]; exact I4
  have st4 : tn 0 s4.heap := T.keep _ _ _ st2 fun b _ o e => by rw [es4]; exact pushCells_keeps _ _ _ _ (Heap.get?_push_of_some _ (up3 b o e))
  rw [← es4]
  have n4 : ∀ b ∈ fp, H3 b = none := fun b hb => (f3 b hb).1.1
  have loop : codeAny (model X.prog X.w) X.A (.compLoop (.DictComp kx vx [⟨tg, iter, ifs, 0⟩] scope pos) 0 (.ref it) (.ref D) ce) (compPost (model X.prog X.w) X.A X.xe use Qf (.ref D) s3.heap.objs.size) s4 := by
    refine compLoop_anyD (fun n s' => ∃ i H', L2.Inv B [] (wipe σ (own.map (·.2))) H' s' ∧ tn i s'.heap ∧ (∀ b ∈ fp, H' b = none) ∧ W i n H') ?_ m0 ⟨0, H3, J4, st4, n4, w0⟩
    rintro n s5 ⟨i, H5, J5, st5, n5, w5⟩
    have runB : ∀ {α : Type} {m : Sem α} {R : α → Shared → Prop} {E : Value → Shared → Prop} {t : Shared}, wpAny (model B.prog B.w) B.A m R E t → wpAny (model X.prog X.w) X.A m R E t := fun z => by rw [← bP, ← bw, ← bA]; exact z
    have runA : ∀ {α : Type} {m : Sem α} {R : α → Shared → Prop} {E : Value → Shared → Prop} {t : Shared}, wpAny (model X.prog X.w) B.A m R E t → wpAny (model X.prog X.w) X.A m R E t := fun z => by rw [← bA]; exact z
    rcases turn i n H5 w5 with ⟨stop, qq⟩ | ⟨go, Nx, hNx, step⟩
    · refine thnF (runA (T.done B (by rw [bP]) (by rw [bw]) (by rw [bK]) (by rw [bc]; exact hc) i [] s5 _ H5 (fun _ _ => False) J5 (atB J5 n5) st5 stop)) fun r s6 ⟨hr, J6⟩ => ?_
      subst hr
      obtain ⟨I7, nC, m, hn⟩ := back J6
      exact fin D s3.heap.objs.size s6 m H5 I7 qq hn (I3.fpOk (Nat.le_refl _) nC)
    · refine thnF (runA (T.item B (by rw [bP]) (by rw [bw]) (by rw [bK]) (by rw [bc]; exact hc) i [] s5 _ H5 (fun _ _ => False) J5 (atB J5 n5) st5 go)) fun r s6 ⟨u, hr, h6⟩ => ?_
      subst hr
      refine thnF (runA h6) fun _ s7 ⟨x, H7, J7, r7, y7, st7, n7⟩ => ?_
      have J7' := J7.pinned (atB J7 n7) (T.obj _ _ st7)
      have z7 := pg.run _ s7 _ H7 x u _ J7' r7 (step x H7 y7)
      rw [be, bx] at z7
      refine thnF (runB z7) fun _ s8 ⟨σ8, H8, J8, hw8, q8⟩ => ?_
      have turned : ∀ {s' : Shared} {H' : Hp}, L2.Inv B ([] ++ pinsAt fp s7.heap) σ8 H' s' → Nx H' → ∃ m, m < n ∧ ∃ i H', L2.Inv B [] (wipe σ (own.map (·.2))) H' s' ∧ tn i s'.heap ∧ (∀ b ∈ fp, H' b = none) ∧ W i m H' := fun {s' H'} J nx => by
        obtain ⟨m', hm, w'⟩ := hNx H' nx
        have pin : ∀ b ∈ fp, ∀ o, s7.heap.get? b = some o → s'.heap.get? b = some o ∧ H' b = none := fun b hb o e =>
          have z := J.pin (b, o) (List.mem_append_right _ (List.mem_append_right _ (mem_pinsAt hb e)))
          ⟨z.1, z.2.1⟩
        have hl : (wipe σ (own.map (·.2))).length = σ8.length := by rw [← hw8, wipe_length]
        refine ⟨m', hm, i + 1, H', (J.unpinned (pins := [])).weak hl (fun j v e => (wipe_some (hw8.symm ▸ e)).1), T.keep _ _ _ st7 fun b hb o e => (pin b hb o e).1, fun b hb => ?_, w'⟩
        obtain ⟨o, e, _⟩ := T.obj _ _ st7 b hb
        exact (pin b hb o e).2
      have z8 := pt.run _ s8 σ8 H8 _ J8 q8
      rw [be, bx] at z8
      refine thnF (runB z8) fun b s9 ⟨H9, J9, q9⟩ => ?_
      cases b with
      | false => exact turned J9 (by simpa using q9)
      | true =>
        rw [if_pos rfl] at q9 ⊢
        have z9 := pk.run _ s9 σ8 H9 _ J9 q9
        rw [be, bx] at z9
        refine thnF (runB z9) fun z s10 ⟨yk, H10, J10, r10, q10⟩ => ?_
        have z10 := pv.run _ s10 σ8 H10 _ J10 q10
        rw [be, bx] at z10
        refine thnF (runB z10) fun z2 s11 ⟨yv, H11, J11, r11, q11⟩ => ?_
        exact runB (ds.put bP bw bK bA J11 r10 r11 q11 fun H' s' nx J' => turned J' nx)
  exact codeAny_compStart_dict loop (T.self X.A 0 _ _ _ st4 loop)
theorem pe_dcx {kx vx tg iter : Expr} {ifs : List Expr} {scope : Scope} {own : List (Str × Nat)} {pos : Pos} {wi : TI} {g : TG} {tt : TT} {tk tv : TE} {ini : Addr → HO} {st : Addr → V → V → Hp → (Hp → Prop) → Prop} (ds : DSto X ini st)
    (hc : X.calm = true) (hN : X.N.Nodup) (hi : PI X tg iter wi) (ok : BlkOk X.N X.env.scope scope own)
    (hg : ∀ (s : Shared) (H : Hp) (C : Addr) (cl : List (Str × Addr)) (fp : List Addr), PG (X.blk s H scope (compEnvC scope cl C X.env) fp) tg g)
    (ht : ∀ (s : Shared) (H : Hp) (C : Addr) (cl : List (Str × Addr)) (fp : List Addr), PTs (X.blk s H scope (compEnvC scope cl C X.env) fp) ifs tt)
    (hk : ∀ (s : Shared) (H : Hp) (C : Addr) (cl : List (Str × Addr)) (fp : List Addr), PE (X.blk s H scope (compEnvC scope cl C X.env) fp) kx tk)
    (hv : ∀ (s : Shared) (H : Hp) (C : Addr) (cl : List (Str × Addr)) (fp : List Addr), PE (X.blk s H scope (compEnvC scope cl C X.env) fp) vx tv) (hs : ∀ x, foldedSetIterable iter X.env x = pure x := by intro _; rfl) :
    PE X (.DictComp kx vx [⟨tg, iter, ifs, 0⟩] scope pos) (tDcX ini st wi g tt tk tv (own.map (·.2))) := by
  refine ⟨fun pins s σ H Q I h => ?_⟩
  rw [arm_eval_DictComp]
  refine dcx_core ds hc hN I hi ok hg ht hk hv hs h fun D C s' m H' I' q hn f => ⟨m, hn, fun h'' sb => ⟨.ref D, H', ?_, rfl, q⟩⟩
  obtain ⟨f0, f1, _, f3, f4, f5⟩ := f
  exact I'.turned (t' := s'.toks) (fun b o hb e => (sb.2 b hb).trans e) f0 f1 f3 f4 f5
end
/-! keyed by tuples -/
def stN (P : Program) (w : World) (K : PySem.W.Frag) : Addr → V → V → Hp → (Hp → Prop) → Prop := fun D y z H Nx => ∃ kvs a k, y = .ref a ∧ H D = some (ndO P w D kvs) ∧ kvs.length < sizeLine ∧ KeysAt K H kvs ∧ KeyAt K H k a ∧ Nx (upd H D (ndO P w D (storeV kvs k a z)))
theorem dstoN {X : Cx} (P : Program) (w : World) (K : PySem.W.Frag) (hu : X.A.units + 64 < cLine) (hP : X.prog = P := by rfl) (hw : X.w = w := by rfl) (hK : X.K = K := by rfl) : DSto X (fun D => ndO P w D []) (stN P w K) := by
  subst hP hw hK
  refine ⟨fun h H hb => nd_empty h hb, fun {Y} e1 e2 e3 e4 => ?_⟩
  intro pins σ H s D y z u r Nx Q E I ry rz h k
  obtain ⟨kvs, a, kk, rfl, hD, hz, ks, key, nx⟩ := h
  cases (show u = Value.ref a from ry)
  rw [← e1, ← e2, ← e3] at *
  exact nd_dictSet (by rw [e4]; omega) I hD ks key hz rz fun s' I' => k _ s' nx I'
end DW

/-! dicts keyed by tuples, by data -/
namespace DW
open PySem PySem.Spec PyProof.Rows L2
abbrev KD := List (PyData × PyData)
def hasN (kd : KD) (k : PyData) : Bool := kd.any fun p => decide (nk p.1 = nk k)
def getN (kd : KD) (k : PyData) : Option PyData := (kd.find? fun p => decide (nk p.1 = nk k)).map (·.2)
def putN (kd : KD) (k d : PyData) : KD := if hasN kd k = true then kd.map (fun p => if nk p.1 = nk k then (p.1, d) else p) else kd ++ [(k, d)]
structure NdK (K : PySem.W.Frag) (F : Hp) (p : NE) (q : PyData × PyData) : Prop where
  k : p.1 = nk q.1
  y : kyD q.1 = true
  n : p.1.depth ≤ 8
  a : Dp K F (.ref p.2.1) q.1
  d : Dp K F p.2.2 q.2
def Nd (K : PySem.W.Frag) (F : Hp) : List NE → KD → Prop := Paired (NdK K F)
section
variable {K : PySem.W.Frag} {F H : Hp}
theorem NdK.mono (e : Ex F H) {p : NE} {q : PyData × PyData} (h : NdK K F p q) : NdK K H p q := ⟨h.k, h.y, h.n, e.dp _ _ h.a, e.dp _ _ h.d⟩
theorem Nd.mono (e : Ex F H) {kvs : List NE} {kd : KD} (h : Nd K F kvs kd) : Nd K H kvs kd := Paired.mapP h fun _ _ z => z.mono e
theorem Nd.keys : ∀ {kvs : List NE} {kd : KD}, Nd K F kvs kd → KeysAt K F kvs
  | _, _, .nil, p, hp => by cases hp
  | _, q :: _, .cons h t, p, hp => by
    rcases List.mem_cons.mp hp with rfl | hp
    · exact ⟨q.1, h.y, h.k.symm, h.n, h.a⟩
    · exact Nd.keys t p hp
theorem Nd.at_ (k : PyData) : ∀ {kvs : List NE} {kd : KD}, Nd K F kvs kd → (atV kvs (nk k) = none ∧ getN kd k = none ∧ hasN kd k = false) ∨ ∃ a v d, atV kvs (nk k) = some (a, v) ∧ getN kd k = some d ∧ hasN kd k = true ∧ Dp K F v d
  | _, _, .nil => .inl ⟨rfl, rfl, rfl⟩
  | p :: ps, q :: qs, .cons h t => by
    have hk := h.k
    unfold atV getN hasN
    rw [List.find?_cons, List.find?_cons, List.any_cons, hk]
    by_cases e : nk q.1 = nk k
    · rw [decide_eq_true e]
      exact .inr ⟨p.2.1, p.2.2, q.2, rfl, rfl, rfl, h.d⟩
    · rw [decide_eq_false e, Bool.false_or]
      exact Nd.at_ k t
theorem Nd.isSome {k : PyData} {kvs : List NE} {kd : KD} (h : Nd K F kvs kd) : (atV kvs (nk k)).isSome = hasN kd k := by
  rcases h.at_ k with ⟨e1, _, e3⟩ | ⟨_, _, _, e1, _, e3, _⟩ <;> rw [e1, e3] <;> rfl
theorem Nd.map_ (k : PyData) {v : V} {d : PyData} (hd : Dp K F v d) : ∀ {kvs : List NE} {kd : KD}, Nd K F kvs kd → Nd K F (kvs.map (fun x => if x.1 = nk k then (x.1, x.2.1, v) else x)) (kd.map (fun p => if nk p.1 = nk k then (p.1, d) else p))
  | _, _, .nil => .nil
  | p :: ps, q :: qs, .cons h t => by
    rw [List.map_cons, List.map_cons]
    refine .cons ?_ (Nd.map_ k hd t)
    by_cases e : nk q.1 = nk k
    · rw [if_pos e, if_pos (by rw [h.k]; exact e)]; exact ⟨h.k, h.y, h.n, h.a, hd⟩
    · rw [if_neg e, if_neg (by rw [h.k]; exact e)]; exact h
theorem Nd.app {k : PyData} {a : Addr} {v : V} {d : PyData} (n : NdK K F (nk k, a, v) (k, d)) : ∀ {kvs : List NE} {kd : KD}, Nd K F kvs kd → Nd K F (kvs ++ [(nk k, a, v)]) (kd ++ [(k, d)])
  | _, _, .nil => .cons n .nil
  | _ :: _, _ :: _, .cons h t => .cons h (Nd.app n t)
theorem Nd.put {k : PyData} {a : Addr} {v : V} {d : PyData} (n : NdK K F (nk k, a, v) (k, d)) {kvs : List NE} {kd : KD} (h : Nd K F kvs kd) : Nd K F (storeV kvs (nk k) a v) (putN kd k d) := by
  unfold storeV putN
  rw [h.isSome]
  by_cases e : hasN kd k = true
  · rw [if_pos e, if_pos e]; exact h.map_ k n.d
  · rw [if_neg e, if_neg e]; exact h.app n
theorem Nd.len {kvs : List NE} {kd : KD} (h : Nd K F kvs kd) : kvs.length = kd.length := Paired.length h
end
theorem putN_len (kd : KD) (k d : PyData) : (putN kd k d).length ≤ kd.length + 1 := by
  unfold putN
  split
  · rw [List.length_map]; omega
  · rw [List.length_append]; exact Nat.le_refl _
/-- a new dict that no slot holds -/
def ELN (P : Program) (w : World) (g : Gd) (te : TE) (G : List Sl) (kd : KD) : Prop := ∀ σ F H, Holds g G σ F H → ∀ Q : VK, (∀ D kvs F' H', Stp F H F' H' → H D = none → F' D = none → H' D = some (ndO P w D kvs) → Nd g.K F' kvs kd → Q (.ref D) H') → te σ H Q
def dcS (f : PyData → Option (PyData × PyData)) (kd : KD) (x : PyData) : KD := match f x with
  | none => kd
  | some p => putN kd p.1 p.2
def dcN (f : PyData → Option (PyData × PyData)) (ds : List PyData) : KD := ds.foldl (dcS f) []
theorem dcN_take {f : PyData → Option (PyData × PyData)} {ds : List PyData} {i : Nat} {x : PyData} (h : ds[i]? = some x) : dcN f (ds.take (i + 1)) = match f x with | none => dcN f (ds.take i) | some p => putN (dcN f (ds.take i)) p.1 p.2 := by
  unfold dcN
  rw [List.take_succ, h, List.foldl_append]; rfl
theorem dcN_len (f : PyData → Option (PyData × PyData)) (ds : List PyData) : ∀ i, (dcN f (ds.take i)).length ≤ i
  | 0 => Nat.zero_le _
  | i + 1 => by
    have ih := dcN_len f ds i
    cases e : ds[i]? with
    | none =>
      rw [List.take_succ, e]
      show (dcN f (ds.take i ++ [])).length ≤ _
      rw [List.append_nil]; omega
    | some x =>
      rw [dcN_take e]
      cases f x with
      | none => show (dcN f (ds.take i)).length ≤ _; omega
      | some p => exact Nat.le_trans (putN_len _ _ _) (by omega)
theorem ndO_nt {P : Program} {w : World} {D : Addr} {kvs : List NE} : ∀ ps, ndO P w D kvs ≠ .tbl ps := fun _ z => by unfold ndO at z; cases z
section
variable {P : Program} {w : World} {g : Gd} {G G' : List Sl} {te tk tv tx : TE} {tt : TT} {tg : TG} {tw : TS} {d x k : PyData} {ds : List PyData} {kd : KD} {i j : Nat} {D' : Ends} {ix : List Nat}
theorem el_dcN {wi : TI} {vs : List Nat} (f : PyData → Option (PyData × PyData)) (G1 : PyData → List Sl) (it : IT g wi G ds) (hz : ds.length ≤ 40000) (ky : ∀ d ∈ ds, ∀ p, f d = some p → kyD p.1 = true ∧ (nk p.1).depth ≤ 8 ∧ ∃ l, p.1 = .tuple l)
    (tgt : ∀ F1, ∀ d ∈ ds, Tg { g with Fl := F1 } tg d (wipeG G vs) (G1 d) ix) (hix : ∀ j ∈ ix, j ∈ vs)
    (ht : ∀ F1, ∀ d ∈ ds, T { g with Fl := F1 } tt (G1 d) (f d).isSome) (hk : ∀ F1, ∀ d ∈ ds, ∀ p, f d = some p → E { g with Fl := F1 } tk (G1 d) p.1) (hv : ∀ F1, ∀ d ∈ ds, ∀ p, f d = some p → E { g with Fl := F1 } tv (G1 d) p.2) :
    ELN P w g (tDcX (fun D => ndO P w D []) (stN P w g.K) wi tg tt tk tv vs) G (dcN f ds) := fun σ F H hh Q q => it σ F H hh _ fun J F1 H1 s1 W Dl hD => by
  have hh1 := hh.mono s1
  have hw := Holds.wipe hh1 vs
  have hwl : Holds { g with Fl := F1 } (wipeG G vs) (wipe σ vs) F1 H1 := ⟨hw.len, hw.st, hw.sl, hw.apart, hw.tab, Ex.refl F1⟩
  have hD0 : g.H0 Dl = none := old_free hh1.st hD
  have nw := new_ok hwl hD
  let Pv : Nat → Hp → Prop := fun i H' => ∃ F' kvs, Stp F1 H1 F' H' ∧ Holds { g with Fl := F1 } (wipeG G vs) (wipe σ vs) F' H' ∧ F' Dl = none ∧ H' Dl = some (ndO P w Dl kvs) ∧ Nd g.K F' kvs (dcN f (ds.take i))
  refine ⟨fun i m H' => m = ds.length - i ∧ i ≤ ds.length ∧ Pv i H', ⟨ds.length, by simp, Nat.zero_le _, F1, [], Stp.mine s1.i hD, hwl.mono (Stp.mine s1.i hD), s1.i.free hD, upd_same, .nil⟩, ?_⟩
  rintro i m H2 ⟨rfl, hi, F2, kvs, s2, hh2, hF2, hH2, hd2⟩
  by_cases hlt : i < ds.length
  · have hget := List.getElem?_eq_getElem hlt
    have hmem : ds[i] ∈ ds := List.getElem_mem hlt
    refine .inr ⟨W.go i F2 H2 hh2.lo hh2.st.i hlt, Pv (i + 1), fun H' p' => ⟨ds.length - (i + 1), by omega, rfl, hlt, p'⟩, fun x H3 y => ?_⟩
    obtain ⟨F3, s3, d3⟩ := W.yld i F2 H2 x H3 ds[i] hh2.lo hh2.st.i hget y
    refine tgt F1 ds[i] hmem x (wipe σ vs) F3 H3 (hh2.mono s3) d3 _ fun σ3 hh3 w3 => ⟨?_, ?_⟩
    · rw [w3 vs hix]
      have ww : ∀ (l : List Nat), (∀ j ∈ l, j ∈ vs) → wipe (wipe σ l) vs = wipe σ vs := by
        intro l
        induction l with
        | nil => intro _; rfl
        | cons v l ih => intro hl; show wipe ((wipe σ l).set v none) vs = _; rw [wipe_set (hl v List.mem_cons_self)]; exact ih fun j hj => hl j (List.mem_cons_of_mem _ hj)
      exact ww vs fun _ h => h
    · refine ht F1 ds[i] hmem σ3 F3 H3 hh3 _ fun F4 H4 s4 => ?_
      have e := dcN_take (f := f) hget
      cases hf : f ds[i] with
      | none =>
        rw [hf] at e
        show Pv (i + 1) H4
        have ss := s3.trans s4
        refine ⟨F4, kvs, s2.trans ss, hh2.mono ss, ss.n Dl _ hH2 hF2, ss.h Dl _ hH2 ndO_nt, ?_⟩
        rw [e]
        exact hd2.mono ss.f
      | some p =>
        rw [hf] at e
        show tk σ3 H4 _
        obtain ⟨ky1, ky2, l, el⟩ := ky _ hmem p hf
        refine hk F1 ds[i] hmem p hf σ3 F4 H4 (hh3.mono s4) _ fun u F5 H5 s5 d5 => hv F1 ds[i] hmem p hf σ3 F5 H5 ((hh3.mono s4).mono s5) _ fun z F6 H6 s6 d6 => ?_
        have ss := ((s3.trans s4).trans s5).trans s6
        have hF6 := ss.n Dl _ hH2 hF2
        have hH6 := ss.h Dl _ hH2 ndO_nt
        have d5' := s6.f.dp _ _ d5
        obtain ⟨a, rfl⟩ : ∃ a, u = .ref a := by
          rw [el] at d5
          obtain ⟨a, _, e, _⟩ := dp_tq d5
          exact ⟨a, e⟩
        have nd6 := hd2.mono ss.f
        have lz : kvs.length < sizeLine := Nat.lt_of_le_of_lt (by rw [hd2.len]; exact dcN_len f ds i) (Nat.lt_of_le_of_lt (Nat.le_of_lt hlt) (Nat.lt_of_le_of_lt hz (by decide)))
        refine ⟨kvs, a, nk p.1, rfl, hH6, lz, fun q hq => (nd6.keys q hq).mono ss.i.ex, ⟨p.1, ky1, rfl, ky2, ss.i.ex.dp _ _ d5'⟩, F6, _, (s2.trans ss).mut hD hF6 hH6 ndO_nt, (hh2.mono ss).mut hD0 hF6 hH6 ndO_nt (fun j t e1 m e2 => nw j ⟨t, e1, m⟩ e2), hF6, upd_same, ?_⟩
        rw [e]
        exact nd6.put ⟨rfl, ky1, ky2, d5', d6⟩
  · have e : i = ds.length := by omega
    subst e
    rw [List.take_length] at hd2
    exact .inl ⟨W.stop F2 H2 hh2.lo hh2.st.i, q Dl kvs F2 H2 (s1.trans s2) (old_free s1 hD) hF2 hH2 hd2⟩
/-- a dict of the ground, read only -/
def FactN (P : Program) (w : World) (g : Gd) (D : Addr) (kd : KD) : Prop := ∃ kvs, g.F0 D = some (ndO P w D kvs) ∧ Nd g.K g.F0 kvs kd
theorem FactN.at_ {D : Addr} (f : FactN P w g D kd) {σ : L2.St} {F H : Hp} (hh : Holds g G σ F H) : ∃ kvs, F D = some (ndO P w D kvs) ∧ H D = some (ndO P w D kvs) ∧ Nd g.K F kvs kd := by
  obtain ⟨kvs, h1, h2⟩ := f
  have hF := hh.st.f D _ h1 ndO_nt
  exact ⟨kvs, hF, hh.st.i.ex D _ hF ndO_nt, h2.mono hh.st.f⟩
/-- x = {..}: from here on it stands in the ground -/
theorem q_asgN (h : ELN P w g te G kd) (k : ∀ F2 D, (∀ Q d, Rt g Q d → Rt { g with F0 := F2, Fl := F2 } Q d) → FactN P w { g with F0 := F2, Fl := F2 } D kd → S { g with F0 := F2, Fl := F2 } tw D' (G.set i (.raw (.ref D)))) : S g (tSeq (tAsg te (gName i)) tw) D' G := fun σ F H hh => by
  refine h σ F H hh _ fun D kvs F1 H1 s1 h0 hF hH hd => ?_
  have e : Ex F1 (upd F1 D (ndO P w D kvs)) := fun a u q _ => by rw [upd_ne (ne_of_none q hF)]; exact q
  have s : Stp F H (upd F1 D (ndO P w D kvs)) H1 := by
    refine ⟨s1.f.trans e, ⟨fun a u q n => ?_, fun a ps q => ?_⟩, s1.h, s1.s, s1.t, fun a u q n => ?_⟩
    · by_cases ha : a = D
      · subst ha; rw [upd_same] at q; cases q; exact hH
      · rw [upd_ne ha] at q; exact s1.i.ex a u q n
    · by_cases ha : a = D
      · subst ha; rw [upd_same] at q; exact ndO_nt ps (Option.some.inj q)
      · rw [upd_ne ha] at q; exact s1.i.nt a ps q
    · rw [upd_ne (ne_of_none q h0)]; exact s1.n a u q n
  have hh1 := (hh.mono s).set (i := i) (v := .ref D) (s := .raw (.ref D)) rfl fun z => by cases z
  have st := (hh.mono s).st
  refine k (upd F1 D (ndO P w D kvs)) D (fun Q d rt v F' H' z dp => rt v F' H' ⟨st.f.trans z.f, z.i, z.h, z.s, z.t, fun a o q n => z.n a o q (st.n a o q n)⟩ dp) ⟨kvs, upd_same, hd.mono e⟩ (σ.set i (some (.ref D))) (upd F1 D (ndO P w D kvs)) H1 ?_
  exact ⟨hh1.len, ⟨Ex.refl _, st.i, st.h, st.s, st.t, fun _ _ _ n => n⟩, hh1.sl, hh1.apart, hh1.tab, Ex.refl _⟩
/-- k in d -/
theorem e_inN {D : Addr} (f : FactN P w g D kd) (h : G[j]? = some (.raw (.ref D))) (hk : B g tk G k) (ky : kyD k = true) (dk : (nk k).depth ≤ 8) (ht : ∃ l, k = .tuple l) : E g (tOp (rInN P w g.K) tk (tVar j)) G (.bool (hasN kd k)) := fun σ F H hh Q q => hk σ F H hh _ fun v F1 H1 s1 d1 => by
  have hh1 := hh.mono s1
  obtain ⟨o, eo, er⟩ := hh1.at_ h
  cases (show o = some (.ref D) from er)
  obtain ⟨kvs, _, hH, nd⟩ := f.at_ hh1
  obtain ⟨l, el⟩ := ht
  obtain ⟨a, rfl⟩ : ∃ a, v = .ref a := by
    rw [el] at d1
    obtain ⟨a, _, e, _⟩ := dp_tq d1
    exact ⟨a, e⟩
  refine ⟨.ref D, eo, a, D, kvs, nk k, rfl, rfl, hH, fun p hp => (nd.keys p hp).mono hh1.st.i.ex, ⟨k, ky, rfl, dk, d1⟩, ?_⟩
  rw [nd.isSome]
  exact q _ F1 H1 s1 (.bl _)
theorem e_niN {D : Addr} (f : FactN P w g D kd) (h : G[j]? = some (.raw (.ref D))) (hk : B g tk G k) (ky : kyD k = true) (dk : (nk k).depth ≤ 8) (ht : ∃ l, k = .tuple l) : E g (tOp (rNiN P w g.K) tk (tVar j)) G (.bool (!hasN kd k)) := fun σ F H hh Q q => hk σ F H hh _ fun v F1 H1 s1 d1 => by
  have hh1 := hh.mono s1
  obtain ⟨o, eo, er⟩ := hh1.at_ h
  cases (show o = some (.ref D) from er)
  obtain ⟨kvs, _, hH, nd⟩ := f.at_ hh1
  obtain ⟨l, el⟩ := ht
  obtain ⟨a, rfl⟩ : ∃ a, v = .ref a := by
    rw [el] at d1
    obtain ⟨a, _, e, _⟩ := dp_tq d1
    exact ⟨a, e⟩
  refine ⟨.ref D, eo, a, D, kvs, nk k, rfl, rfl, hH, fun p hp => (nd.keys p hp).mono hh1.st.i.ex, ⟨k, ky, rfl, dk, d1⟩, ?_⟩
  rw [nd.isSome]
  exact q _ F1 H1 s1 (.bl _)
/-- d.get(k, x) -/
theorem e_get2N {D : Addr} (f : FactN P w g D kd) (h : G[j]? = some (.raw (.ref D))) (hk : E g tk G k) (ky : kyD k = true) (dk : (nk k).depth ≤ 8) (ht : ∃ l, k = .tuple l) (hx : E g tx G x) : E g (tDGet2N P w g.K (tVar j) tk tx) G ((getN kd k).getD x) := fun σ F H hh Q q => by
  obtain ⟨o, eo, er⟩ := hh.at_ h
  cases (show o = some (.ref D) from er)
  obtain ⟨kvs0, _, hH0, nd0⟩ := f.at_ hh
  refine ⟨.ref D, eo, D, kvs0, rfl, hH0, fun p hp => (nd0.keys p hp).mono hh.st.i.ex, hk σ F H hh _ fun v F1 H1 s1 d1 => hx σ F1 H1 (hh.mono s1) _ fun z F2 H2 s2 d2 => ?_⟩
  have hh2 := (hh.mono s1).mono s2
  obtain ⟨kvs, _, hH, nd⟩ := f.at_ hh2
  obtain ⟨l, el⟩ := ht
  obtain ⟨a, rfl⟩ : ∃ a, v = .ref a := by
    rw [el] at d1
    obtain ⟨a, _, e, _⟩ := dp_tq d1
    exact ⟨a, e⟩
  refine ⟨a, kvs, nk k, rfl, hH, fun p hp => (nd.keys p hp).mono hh2.st.i.ex, ⟨k, ky, rfl, dk, (s2.trans (Stp.refl s2.i)).h.dp _ _ (s1.i.ex.dp _ _ d1)⟩, ?_⟩
  rcases nd.at_ k with ⟨e1, e2, _⟩ | ⟨b, u, d', e1, e2, _, dd⟩
  · rw [e2] at q; rw [e1]; exact q z F2 H2 (s1.trans s2) d2
  · rw [e2] at q; rw [e1]; exact q u F2 H2 (s1.trans s2) dd
end
end DW

/-! dicts keyed by tuples: what stands in them -/
namespace DW
open PySem PySem.Spec PyProof.Rows L2
mutual
theorem eqv_beq : ∀ (a b : PyData), kyD a = true → kyD b = true → PyData.eqv a b = NestedKey.beq (nk a) (nk b)
  | .none, b, _, hb => by cases b <;> first | rfl | cases hb
  | .bool _, _, h, _ => by cases h
  | .int i, b, _, hb => by
    cases b <;> first | rfl | (exact absurd hb (by decide)) | skip
    all_goals first | (cases hb; done) | (simp only [PyData.eqv, nk, NestedKey.beq]; exact (Bool.beq_eq_decide_eq _ _))
  | .str x, b, _, hb => by
    cases b <;> first | rfl | (exact absurd hb (by decide)) | skip
    all_goals first | (cases hb; done) | (simp only [PyData.eqv, nk, NestedKey.beq]; exact (Bool.beq_eq_decide_eq _ _))
  | .tuple ds, .tuple es, ha, hb => by
    simp only [PyData.eqv, nk, NestedKey.beq]
    exact eqvs_beq ds es ha hb
  | .tuple _, .none, _, _ => rfl
  | .tuple _, .bool _, _, h => by cases h
  | .tuple _, .int _, _, _ => rfl
  | .tuple _, .str _, _, _ => rfl
  | .tuple _, .list _, _, h => by cases h
  | .tuple _, .dict _, _, h => by cases h
  | .list _, _, h, _ => by cases h
  | .dict _, _, h, _ => by cases h
theorem eqvs_beq : ∀ (a b : List PyData), kyDs a = true → kyDs b = true → PyData.eqvAll a b = NestedKey.beqAll (nks a) (nks b)
  | [], [], _, _ => rfl
  | [], _ :: _, _, _ => rfl
  | _ :: _, [], _, _ => rfl
  | a :: as, b :: bs, ha, hb => by
    have h1 : (kyD a && kyDs as) = true := ha
    have h2 : (kyD b && kyDs bs) = true := hb
    rw [Bool.and_eq_true] at h1 h2
    simp only [PyData.eqvAll, nks, NestedKey.beqAll]
    rw [eqv_beq a b h1.1 h2.1, eqvs_beq as bs h1.2 h2.2]
end
theorem eqv_nk {a b : PyData} (ha : kyD a = true) (hb : kyD b = true) : PyData.eqv a b = decide (nk a = nk b) := by rw [eqv_beq a b ha hb, NestedKey.decide_eq]
theorem anyNk_mem {ds : List PyData} {x : PyData} (h : ∀ d ∈ ds, kyD d = true) (hx : kyD x = true) : (ds.any fun d => decide (nk d = nk x)) = memD x ds := by
  unfold memD
  induction ds with
  | nil => rfl
  | cons d ds ih =>
    rw [List.any_cons, List.any_cons, ih fun y hy => h y (List.mem_cons_of_mem _ hy), eqv_nk (h d List.mem_cons_self) hx]
theorem hasN_map (kd : KD) (k d : PyData) (k' : PyData) : hasN (kd.map fun p => if nk p.1 = nk k then (p.1, d) else p) k' = hasN kd k' := by
  unfold hasN
  induction kd with
  | nil => rfl
  | cons p kd ih =>
    rw [List.map_cons, List.any_cons, List.any_cons, ih]
    by_cases e : nk p.1 = nk k
    · rw [if_pos e]
    · rw [if_neg e]
theorem hasN_put (kd : KD) (k d k' : PyData) : hasN (putN kd k d) k' = (hasN kd k' || decide (nk k = nk k')) := by
  unfold putN
  by_cases h : hasN kd k = true
  · rw [if_pos h, hasN_map]
    by_cases e : nk k = nk k'
    · have : hasN kd k' = hasN kd k := by unfold hasN; rw [e]
      rw [this, h, Bool.true_or]
    · rw [decide_eq_false e, Bool.or_false]
  · rw [if_neg h]
    unfold hasN
    rw [List.any_append, List.any_cons, List.any_nil, Bool.or_false]
theorem hasN_dc (f : PyData → Option (PyData × PyData)) (key val : PyData → PyData) (hf : ∀ d, f d = some (key d, val d)) (ds : List PyData) (k : PyData) : hasN (dcN f ds) k = ds.any fun d => decide (nk (key d) = nk k) := by
  unfold dcN
  have gen : ∀ (ds : List PyData) (kd : KD), hasN (ds.foldl (dcS f) kd) k = (hasN kd k || ds.any fun d => decide (nk (key d) = nk k)) := by
    intro ds
    induction ds with
    | nil => intro kd; rw [List.foldl_nil, List.any_nil, Bool.or_false]
    | cons d ds ih =>
      intro kd
      have e : dcS f kd d = putN kd (key d) (val d) := by unfold dcS; rw [hf d]
      rw [List.foldl_cons, ih, List.any_cons, e]
      rw [hasN_put, Bool.or_assoc]
  rw [gen]
  show (false || _) = _
  rw [Bool.false_or]
theorem getN_map_ne (kd : KD) {k : PyData} (d : PyData) {k' : PyData} (h : nk k ≠ nk k') : getN (kd.map fun p => if nk p.1 = nk k then (p.1, d) else p) k' = getN kd k' := by
  unfold getN
  induction kd with
  | nil => rfl
  | cons p kd ih =>
    rw [List.map_cons, List.find?_cons, List.find?_cons]
    by_cases e : nk p.1 = nk k
    · rw [if_pos e, decide_eq_false (fun z => h (e.symm.trans z))]; exact ih
    · rw [if_neg e]
      by_cases e2 : nk p.1 = nk k'
      · rw [decide_eq_true e2]
      · rw [decide_eq_false e2]; exact ih
theorem getN_map_eq (kd : KD) {k : PyData} (d : PyData) {k' : PyData} (h : nk k = nk k') (hh : hasN kd k = true) : getN (kd.map fun p => if nk p.1 = nk k then (p.1, d) else p) k' = some d := by
  unfold getN
  induction kd with
  | nil => cases hh
  | cons p kd ih =>
    rw [List.map_cons, List.find?_cons]
    by_cases e : nk p.1 = nk k
    · rw [if_pos e, decide_eq_true (e.trans h)]; rfl
    · rw [if_neg e, decide_eq_false (fun z => e (z.trans h.symm))]
      refine ih ?_
      unfold hasN at hh
      rw [List.any_cons, decide_eq_false e, Bool.false_or] at hh
      exact hh
theorem getN_app (kd : KD) (k d k' : PyData) : getN (kd ++ [(k, d)]) k' = match getN kd k' with | some x => some x | none => if nk k = nk k' then some d else none := by
  unfold getN
  induction kd with
  | nil =>
    rw [List.nil_append, List.find?_cons, List.find?_nil]
    by_cases e : nk k = nk k'
    · rw [decide_eq_true e, if_pos e]; rfl
    · rw [decide_eq_false e, if_neg e]; rfl
  | cons p kd ih =>
    rw [List.cons_append, List.find?_cons, List.find?_cons]
    by_cases e : nk p.1 = nk k'
    · rw [decide_eq_true e]; rfl
    · rw [decide_eq_false e]; exact ih
theorem getN_none {kd : KD} {k : PyData} (h : hasN kd k = false) : getN kd k = none := by
  unfold getN hasN at *
  rw [List.find?_eq_none.mpr fun p hp => ?_]
  · rfl
  · intro z
    rw [List.any_eq_false] at h
    exact h p hp z
theorem getN_some {kd : KD} {k : PyData} (h : hasN kd k = true) : ∃ d, getN kd k = some d := by
  unfold getN hasN at *
  obtain ⟨p, hp, e⟩ := List.any_eq_true.mp h
  cases q : kd.find? (fun p => decide (nk p.1 = nk k)) with
  | none => exact absurd e (by simpa using List.find?_eq_none.mp q p hp)
  | some p => exact ⟨p.2, rfl⟩
theorem getN_put (kd : KD) (k d k' : PyData) : getN (putN kd k d) k' = if nk k = nk k' then some d else getN kd k' := by
  unfold putN
  by_cases h : hasN kd k = true
  · rw [if_pos h]
    by_cases e : nk k = nk k'
    · rw [if_pos e, getN_map_eq kd d e h]
    · rw [if_neg e, getN_map_ne kd d e]
  · rw [if_neg h, getN_app]
    by_cases e : nk k = nk k'
    · have : hasN kd k' = false := by
        have : hasN kd k' = hasN kd k := by unfold hasN; rw [e]
        rw [this]; simpa using h
      rw [getN_none this, if_pos e]
    · rw [if_neg e, if_neg e]
      cases getN kd k' <;> rfl
end DW

/-! xs.insert(n, d) on a list of ours; what a dict comprehension holds -/
namespace DW
open PySem PySem.Spec PyProof.Rows L2
def insD (ds : List PyData) (n : Nat) (d : PyData) : List PyData := ds.take n ++ [d] ++ ds.drop n
section
variable {g : Gd} {G : List Sl} {te ti : TE} {d : PyData} {ds : List PyData} {i : Nat} {D : Ends}
theorem s_ins {r : V → List V → Hp → VK → Prop} {n : Int} (hr : ∀ (l : Addr) (xs : List V) (n : Int) (y : V) (H : Hp) (Q : VK), H l = some (.lst xs) → xs.length < sizeLine → 0 ≤ n → n < 2 ^ 63 → Q .non (upd H l (.lst (xs.take n.toNat ++ [y] ++ xs.drop n.toNat))) → r (.ref l) [.int n, y] H Q)
    (h : G[i]? = some (.ow ds)) (hn : E g ti G (.int n)) (he : E g te G d) (h0 : 0 ≤ n) (h1 : n < 2 ^ 63) (hz : ds.length < 100000) (k : N g D.nx (G.set i (.ow (insD ds n.toNat d)))) : S g (tDrop (tBM g.K "list" r (tVar i) (tCons ti (tCons te tNil)))) D G := fun σ F H hh => by
  obtain ⟨o, e, p, vs, ev, g0, hF, hH, hd⟩ := hh.at_ h
  subst ev
  refine ⟨.ref p, e, .inl ⟨rfl, vs, .inl (.inl hH)⟩, hn σ F H hh _ fun u F1 H1 s1 d1 => he σ F1 H1 (hh.mono s1) _ fun v F2 H2 s2 d2 => ?_⟩
  cases d1
  have s := s1.trans s2
  have hH1 := s.h.lst hH
  have hF1 := s.n p _ hH hF
  refine hr p vs n v H2 _ hH1 (Nat.lt_of_lt_of_le (by rw [dps_len hd]; exact hz) (by decide)) h0 h1 ?_
  have hi : i < σ.length := (List.getElem?_eq_some_iff.mp e).1
  have same : σ.set i (some (.ref p)) = σ := List.ext_getElem? fun j => by
    by_cases hj : i = j
    · subst hj; rw [List.getElem?_set_self hi, e]
    · rw [List.getElem?_set_ne hj]
  have lose : Holds g (G.set i .un) σ F2 H2 := (hh.mono s).weak (by rw [List.length_set]) fun j s ej => by
    by_cases hj : i = j
    · subst hj; rw [List.getElem?_set_self (by rw [← hh.len]; exact hi)] at ej; cases ej; exact .inl rfl
    · rw [List.getElem?_set_ne hj] at ej; exact .inr ej
  have other : ∀ (j : Nat) (t : Sl), j ≠ i → G[j]? = some t → t.mine = true → σ[j]? ≠ some (some (.ref p)) := fun j t hj ej m z => hj (hh.apart j i t (.ow ds) p ej h m rfl z e)
  have chg := lose.mut (o2 := .lst (vs.take n.toNat ++ [v] ++ vs.drop n.toNat)) g0 hF1 hH1 (fun _ z => by cases z) fun j t ej m => by
    by_cases hj : i = j
    · subst hj; rw [List.getElem?_set_self (by rw [← hh.len]; exact hi)] at ej; cases ej; cases m
    · rw [List.getElem?_set_ne hj] at ej; exact other j t (Ne.symm hj) ej m
  have hd2 := s.f.dps ds vs hd
  have fin := chg.setO (i := i) (ds := insD ds n.toNat d) g0 hF1 upd_same (dps_app (dps_app (dps_take _ hd2) (.cons d2 .nil)) (dps_drop _ hd2)) fun j hj ⟨t, ej, m⟩ => by
    rw [List.getElem?_set_ne (Ne.symm hj)] at ej; exact other j t hj ej m
  rw [List.set_set, same] at fin
  exact k σ F2 _ fin
end
theorem insD_len {ds : List PyData} {n : Nat} {d : PyData} : (insD ds n d).length = ds.length + 1 := by
  unfold insD
  have := List.take_append_drop n ds
  have h := congrArg List.length this
  rw [List.length_append] at h
  rw [List.length_append, List.length_append]
  show _ + 1 + _ = _
  omega
theorem insD_map {α : Type} (f : α → PyData) (l : List α) (n : Nat) (x : α) : insD (l.map f) n (f x) = (l.take n ++ [x] ++ l.drop n).map f := by
  unfold insD
  rw [List.map_append, List.map_append, List.map_take, List.map_drop]; rfl
theorem getN_dc (f : PyData → Option (PyData × PyData)) (key val : PyData → PyData) {ds : List PyData} (hf : ∀ d ∈ ds, f d = some (key d, val d)) {k v : PyData} (hv : ∀ d ∈ ds, nk (key d) = nk k → val d = v) :
    getN (dcN f ds) k = if (ds.any fun d => decide (nk (key d) = nk k)) = true then some v else none := by
  unfold dcN
  have gen : ∀ (ds : List PyData) (kd : KD), (∀ d ∈ ds, f d = some (key d, val d)) → (∀ d ∈ ds, nk (key d) = nk k → val d = v) → getN (ds.foldl (dcS f) kd) k = if (ds.any fun d => decide (nk (key d) = nk k)) = true then some v else getN kd k := by
    intro ds
    induction ds with
    | nil => intro kd _ _; rfl
    | cons d ds ih =>
      intro kd hf hv
      have e : dcS f kd d = putN kd (key d) (val d) := by unfold dcS; rw [hf d List.mem_cons_self]
      rw [List.foldl_cons, ih _ (fun x hx => hf x (List.mem_cons_of_mem _ hx)) (fun x hx => hv x (List.mem_cons_of_mem _ hx)), List.any_cons, e, getN_put]
      by_cases h : nk (key d) = nk k
      · rw [if_pos h, decide_eq_true h, Bool.true_or, if_pos rfl, hv d List.mem_cons_self h]
        split <;> rfl
      · rw [if_neg h, decide_eq_false h, Bool.false_or]
  rw [gen ds [] hf hv]; rfl
end DW

/-! defs that give a tuple of a new list and data: the list is the caller's -/
namespace DW
open PySem PySem.Spec PyProof.Rows L2
/-- what such an answer is: t the tuple, p the list, both new -/
structure TL (K : PySem.W.Frag) (H F' H' : Hp) (t p : Addr) (us : List V) (zv : V) (ls : List PyData) (z : PyData) : Prop where
  ht : H' t = some (.tup [.ref p, zv])
  hp : H' p = some (.lst us)
  nt : H t = none
  np : H p = none
  ft : F' t = none
  fp : F' p = none
  dl : DpAll K F' us ls
  dz : Dp K F' zv z
def ETL (g : Gd) (te : TE) (G : List Sl) (ls : List PyData) (z : PyData) : Prop := ∀ σ F H, Holds g G σ F H → ∀ Q : VK, (∀ t p us zv F' H', Stp F H F' H' → TL g.K H F' H' t p us zv ls z → Q (.ref t) H') → te σ H Q
def RtTL (g : Gd) (rt : VK) (ls : List PyData) (z : PyData) : Prop := ∀ t p us zv F H, Stp g.F0 g.H0 F H → TL g.K g.H0 F H t p us zv ls z → rt (.ref t) H
def spTL (K : PySem.W.Frag) (Tb : List Addr) (R : List PyData → List PyData → PyData → Prop) : Sp := fun vs H Q _ => ∃ F ds ls z, Sub F H ∧ (∀ P ∈ Tb, GxR.TabG H P) ∧ DpAll K F vs ds ∧ R ds ls z ∧
  ∀ t p us zv F' H', Stp F H F' H' → TL K H F' H' t p us zv ls z → Q (.ref t) H'
theorem TL.old {K : PySem.W.Frag} {F H F1 H1 F2 H2 : Hp} {t p : Addr} {us : List V} {zv : V} {ls : List PyData} {z : PyData} (s : Stp F H F1 H1) (x : TL K H1 F2 H2 t p us zv ls z) : TL K H F2 H2 t p us zv ls z :=
  ⟨x.ht, x.hp, old_free s x.nt, old_free s x.np, x.ft, x.fp, x.dl, x.dz⟩
/-- the answer's objects for good -/
theorem stp_keep {F H H' : Hp} {a : Addr} {o : HO} {F' : Hp} (s : Stp F H F' H') (n : H a = none) (f : F' a = none) (h : H' a = some o) (nt : ∀ ps, o ≠ .tbl ps) : Stp F H (upd F' a o) H' ∧ Ex F' (upd F' a o) := by
  have e : Ex F' (upd F' a o) := fun b u q _ => by rw [upd_ne (ne_of_none q f)]; exact q
  refine ⟨⟨s.f.trans e, ⟨fun b u q m => ?_, fun b ps q => ?_⟩, s.h, s.s, s.t, fun b u q m => ?_⟩, e⟩
  · by_cases hb : b = a
    · subst hb; rw [upd_same] at q; cases q; exact h
    · rw [upd_ne hb] at q; exact s.i.ex b u q m
  · by_cases hb : b = a
    · subst hb; rw [upd_same] at q; exact nt ps (Option.some.inj q)
    · rw [upd_ne hb] at q; exact s.i.nt b ps q
  · rw [upd_ne (ne_of_none q n)]; exact s.n b u q m
theorem TL.keep {K : PySem.W.Frag} {F H F' H' : Hp} {t p : Addr} {us : List V} {zv : V} {ls : List PyData} {z : PyData} (s : Stp F H F' H') (x : TL K H F' H' t p us zv ls z) : ∃ F2, Stp F H F2 H' ∧ Ex F' F2 ∧ Dp K F2 (.ref t) (.tuple [.list ls, z]) := by
  have ne : t ≠ p := fun e => by have := x.ht; rw [e, x.hp] at this; cases this
  obtain ⟨s1, e1⟩ := stp_keep s x.np x.fp x.hp fun _ z => by cases z
  obtain ⟨s2, e2⟩ := stp_keep s1 x.nt (by rw [upd_ne ne]; exact x.ft) x.ht fun _ z => by cases z
  refine ⟨_, s2, e1.trans e2, .tup (.inl (.inl upd_same)) (.cons ?_ (.cons ((e1.trans e2).dp _ _ x.dz) .nil))⟩
  exact .lst (.inl (.inl (by rw [upd_ne ne.symm, upd_same]))) ((e1.trans e2).dps _ _ x.dl)
section
variable {g : Gd} {G : List Sl} {te tb : TE} {ta : TA} {tt : TT} {tu tw : TS} {d z : PyData} {ds ls : List PyData} {i j : Nat} {D : Ends}
theorem el_pair (ha : EL g te G ls) (hb : E g tb G z) : ETL g (tTup (tCons te (tCons tb tNil))) G ls z := fun σ F H hh Q q => ha σ F H hh _ fun p us F1 H1 s1 h0 hF hH d1 => by
  refine hb σ F1 H1 (hh.mono s1) _ fun zv F2 H2 s2 d2 => ⟨by show 2 ≤ sizeLine; decide, fun t ht => ?_⟩
  have hp2 := s2.h.lst hH
  exact q t p us zv F2 _ ((s1.trans s2).trans (Stp.mine s2.i ht)) ⟨upd_same, by rw [upd_ne (ne_of_none hp2 ht)]; exact hp2, old_free (s1.trans s2) ht, h0, s2.i.free ht, s2.n p _ hH hF, s2.f.dps ls us d1, d2⟩
theorem s_retTL (h : ETL g te G ls z) (k : RtTL g D.rt ls z) : S g (tRet te) D G := fun σ F H hh => h σ F H hh _ fun t p us zv F1 H1 s1 x => k t p us zv F1 H1 (hh.st.trans s1) (x.old hh.st)
theorem tl_call {R : List PyData → List PyData → PyData → Prop} {Ek : XK} (h : A g ta G ds) (r : R ds ls z) : ETL g (tCall (spTL g.K g.T R) [] Ek ta) G ls z := fun σ F H hh Q q => h σ F H hh _ fun vs F1 H1 s1 d1 => by
  rw [List.append_nil]
  exact ⟨F1, ds, ls, z, s1.i, (hh.mono s1).tab, d1, r, fun t p us zv F2 H2 s2 x => q t p us zv F2 H2 (s1.trans s2) (x.old s1)⟩
theorem ETL.e (h : ETL g te G ls z) : E g te G (.tuple [.list ls, z]) := fun σ F H hh Q q => h σ F H hh _ fun t p us zv F1 H1 s1 x => by
  obtain ⟨F2, s2, _, d⟩ := x.keep s1
  exact q _ F2 H1 s2 d
/-- told = f(..); a test of told; rows = told[0]: the list is ours from then on -/
theorem q_told {b : Bool} (h : ETL g te G ls z) (hi : i < G.length) (hij : i ≠ j) (ht : T g tt (G.set i (.fz (.tuple [.list ls, z]))) b) (hb : b = false)
    (k : S g tw D ((G.set i .un).set j (.ow ls))) : S g (tSeq (tAsg te (gName i)) (tSeq (tIfS tt tu tNext) (tSeq (tAsg (tOp (rIx g.K) (tVar i) (tC (.int 0))) (gName j)) tw))) D G := fun σ F H hh => h σ F H hh _ fun t p us zv F1 H1 s1 x => by
  subst hb
  obtain ⟨F2, s2, _, d⟩ := x.keep s1
  have hh2 := (hh.mono s2).setF (i := i) d
  refine ht _ F2 H1 hh2 _ fun F3 H3 s3 => ?_
  have s4 := s1.trans (Stp.back s1.i s3)
  have h4 : Holds g (G.set i .un) (σ.set i (some (.ref t))) F1 H3 := (hh.mono s4).set (s := .un) trivial fun z => by cases z
  have t3 := s3.h t _ x.ht fun _ z => by cases z
  have p3 := s3.h.lst x.hp
  have hl : i < σ.length := by rw [hh.len]; exact hi
  refine ⟨.ref t, List.getElem?_set_self hl, ?_⟩
  refine .inr (.inl ⟨t, [.ref p, zv], 0, .ref p, rfl, rfl, .inl (.inl t3), rfl, ?_⟩)
  refine k _ F1 H3 (h4.setO (i := j) (old_free hh.st x.np) x.fp p3 x.dl fun k hk ⟨u, e1, m⟩ e2 => ?_)
  by_cases hik : i = k
  · subst hik
    rw [List.getElem?_set_self hi] at e1; cases e1; cases m
  · rw [List.getElem?_set_ne hik] at e1 e2
    exact new_ok hh x.np k ⟨u, e1, m⟩ e2
end
section
variable {P : Program} {w : World} {K : PySem.W.Frag} {mg : Str → Option Value} {base : Heap} {x qual : Str} {st : Stmt} {f : Addr} {fd : FuncData} {Nn ps : List Str} {k : Nat} {Tb : List Addr}
theorem df_TL (F : Fun K x qual st f fd) (Sc : FnScope Nn ps (defScope st)) (hm : mg x = some (.ref f)) (hb : Binds K fd ps []) {R : List PyData → List PyData → PyData → Prop} (hlen : ∀ ds ls z, R ds ls z → ds.length = ps.length)
    (body : ∀ (cdv : Value) (A : Around) (outer : List Env) (s : Shared) (H : Hp) (E : XK), Room k (A.deeper (envOfC qual (defScope st) s.heap.objs.size f cdv)) →
      ∃ t, PSs (cxOf CX0 P w K mg base Nn qual (defScope st) f cdv A outer s H E).nox (defBody st) t ∧ ∀ (ds ls : List PyData) (z : PyData) (F0 H0 : Hp) (Q : VK), R ds ls z → RtTL ⟨K, Tb, F0, H0, F0⟩ Q ls z → S ⟨K, Tb, F0, H0, F0⟩ t { nx := fun _ H' => Q .non H', rt := Q } (startG Nn.length ds)) :
    Df P w K mg base (k + 1) x ps (spTL K Tb R) := by
  refine ⟨f, fd, F.ok Sc (fun vs H Q E h => ?_) (fun cdv A outer s H vs Q E hr h => ?_), hm, F.kp, hb⟩
  · obtain ⟨F, ds, ls, z, _, _, hd, r, _⟩ := h
    exact (dps_len hd).trans (hlen ds ls z r)
  · obtain ⟨F1, ds, ls, z, sb, ht, hd, r, q⟩ := h
    obtain ⟨t, h1, h2⟩ := body cdv A outer s H E hr
    exact ⟨t, h1, h2 ds ls z F1 H Q r q _ F1 H (holds_start sb ht hd)⟩
end
end DW

/-! own dicts keyed by tuples: {}, d[k], d[k] = v, d.get(k), in, len; < of alike data; max(.., default=i) -/
namespace DW
open PySem PySem.Spec PyProof.Rows L2
/-! ### rules -/
def tDNewN (P : Program) (w : World) : TE := fun _ H Q => ∀ p, H p = none → Q (.ref p) (upd H p (ndO P w p []))
def tDGet1N (P : Program) (w : World) (K : PySem.W.Frag) (td ty : TE) : TE := fun σ H Q => td σ H fun x H1 => ∃ D kvs0, x = .ref D ∧ H1 D = some (ndO P w D kvs0) ∧ KeysAt K H1 kvs0 ∧ ty σ H1 fun y H2 => ∃ a kvs k, y = .ref a ∧ H2 D = some (ndO P w D kvs) ∧ KeysAt K H2 kvs ∧ KeyAt K H2 k a ∧ Q (((atV kvs k).map (·.2)).getD .non) H2
def tDGetN (P : Program) (w : World) (K : PySem.W.Frag) (td ty : TE) : TE := fun σ H Q => td σ H fun x H1 => ty σ H1 fun y H2 => ∃ D a kvs k b v, x = .ref D ∧ y = .ref a ∧ H2 D = some (ndO P w D kvs) ∧ KeysAt K H2 kvs ∧ KeyAt K H2 k a ∧ atV kvs k = some (b, v) ∧ Q v H2
def sDPutN (P : Program) (w : World) (K : PySem.W.Frag) (td ty tv : TE) : TS := fun D σ H => tv σ H fun v H1 => td σ H1 fun x H2 => ty σ H2 fun y H3 => ∃ d a kvs k, x = .ref d ∧ y = .ref a ∧ H3 d = some (ndO P w d kvs) ∧ KeysAt K H3 kvs ∧ KeyAt K H3 k a ∧ kvs.length < sizeLine ∧ D.nx σ (upd H3 d (ndO P w d (storeV kvs k a v)))
def rLenN (P : Program) (w : World) (K : PySem.W.Frag) : List V → Hp → VK → Prop := fun vs H Q => ∃ D kvs, vs = [.ref D] ∧ H D = some (ndO P w D kvs) ∧ KeysAt K H kvs ∧ Q (.int kvs.length) H
section
variable {X : Cx} {o e f value i : Expr} {apos cpos pos pos' : Pos} {td ty tx tv : TE} (P : Program) (w : World) (K : PySem.W.Frag)
theorem pe_dnewN (hP : X.prog = P := by rfl) (hw : X.w = w := by rfl) : PE X (.Dict [] [] pos) (tDNewN P w) := by
  subst hP hw
  refine ⟨fun pins s σ H Q I h => wpAny_Dict_empty ?_⟩
  have n := I.hok.fresh (Nat.le_refl s.heap.objs.size)
  exact ⟨.ref s.heap.objs.size, _, I.laid (t' := s.toks) (fun _ _ q => Heap.get?_push_of_some _ q) (Nat.le_refl _) (nd_empty s.heap I.big), rfl, h _ n⟩
theorem pe_dget1N (hu : X.A.units + 64 < cLine) (ho : PE X o td) (he : PE X e ty) (m : M1 X o "get" apos e cpos) (hP : X.prog = P := by rfl) (hw : X.w = w := by rfl) (hK : X.K = K := by rfl) : PE X (.Call (.Attribute o "get" apos) [e] [] cpos) (tDGet1N P w K td ty) := by
  subst hP hw hK
  refine ⟨fun pins s σ H Q I h => ?_⟩
  refine wpAny_Call_method m.base m.few m.line PySem.F.plainAttrs_dict PySem.F.slot_dict_get PySem.F.type_dict_get ?_
  refine thn (ho.run pins s σ H _ I h) fun u s1 ⟨x, H1, I1, rx, D, kvs0, ex, d0, ks0, q1⟩ => ?_
  subst ex
  cases (show u = Value.ref D from rx)
  obtain ⟨_, _, xs0, _, dd0⟩ := nd_of I1 d0 ks0
  refine ⟨dd0.typeIs, fun b q => ?_, ?_⟩
  · cases q
    obtain ⟨ob, _, _, h1, h2, _⟩ := dd0
    exact ⟨ob, h1, h2.2.1⟩
  rw [m.trees]
  refine Calls.callWith_builtin rfl (Calls.evalArgs_plain (Calls.spliced_cons ?_))
  refine thn (he.run pins s1 σ H1 _ I1 q1) fun iv s2 ⟨y, H2, I2, ry, a, kvs, k, ey, e2, ks2, key, q2⟩ => Calls.spliced_nil ?_
  subst ey
  cases (show iv = Value.ref a from ry)
  obtain ⟨_, hd, xs, rel, dd⟩ := nd_of I2 e2 ks2
  refine call_meetsIn PySem.F.slot_dict_get dd.typeIs PySem.F.entry_dict_get (PySem.F.args_dict_get_2 _ _) (meetsH_dict_get (nestedKind X.prog X.w) D a hd) ⟨show X.A.in1.units + 8 < cLine from (by show X.A.units + 1 + 8 < cLine; omega), k, xs, key_is I2 key, dd, ?_⟩
  rcases ndr_at k rel with ⟨e1, e3⟩ | ⟨b, z', u', e1, e3, rr⟩
  · rw [e1] at q2; rw [e3]
    exact ⟨V.non, H2, I2.tok _, rfl, q2⟩
  · rw [e1] at q2; rw [e3]
    exact ⟨z', H2, I2.tok _, rr, q2⟩
theorem pe_dgetN (hu : X.A.units + 64 < cLine) (ho : PE X o td) (hi : PE X i ty) (hs : NoSl i) (hP : X.prog = P := by rfl) (hw : X.w = w := by rfl) (hK : X.K = K := by rfl) : PE X (.Subscript o i pos) (tDGetN P w K td ty) := by
  subst hP hw hK
  refine ⟨fun pins s σ H Q I h => subD_of PySem.F.slot_dict_getitem.lookup hs ?_⟩
  refine thn (ho.run pins s σ H _ I h) fun u s1 ⟨x, H1, I1, rx, q1⟩ => thn (hi.run pins s1 σ H1 _ I1 q1) fun iv s2 ⟨y, H2, I2, ry, D, a, kvs, k, b, v, ex, ey, e2, ks, key, ev, q2⟩ => ?_
  subst ex ey
  cases (show u = Value.ref D from rx)
  cases (show iv = Value.ref a from ry)
  obtain ⟨_, hd, xs, rel, dd⟩ := nd_of I2 e2 ks
  refine ⟨dd.typeIs, ?_⟩
  rcases ndr_at k rel with ⟨e1, _⟩ | ⟨b', z', u', e1, e3, rr⟩
  · rw [ev] at e1; cases e1
  · rw [ev] at e1; cases e1
    exact wpAny_getItem_heap (knd := nestedKind X.prog X.w) (show X.A.in1.units + 8 < cLine from (by show X.A.units + 1 + 8 < cLine; omega)) (key_is I2 key) dd e3 ⟨_, H2, I2.tok _, rr, q2⟩
theorem ps_dputN (hu : X.A.units + 64 < cLine) (ho : PE X o td) (hi : PE X i ty) (hv : PE X value tv) (hs : swapsWith value (some (.Subscript o i pos')) pos.line X.env = pure false) (hP : X.prog = P := by rfl) (hw : X.w = w := by rfl) (hK : X.K = K := by rfl) :
    PS X (.Assign [.Subscript o i pos'] value pos) (sDPutN P w K td ty tv) := by
  subst hP hw hK
  refine ⟨fun pins s σ H D I h => wpAny_Assign_Subscript ?_ hs⟩
  refine thn (hv.run pins s σ H _ I h) fun r s1 ⟨v, H1, I1, rv, q1⟩ => thn (ho.run pins s1 σ H1 _ I1 q1) fun u s2 ⟨x, H2, I2, rx, q2⟩ => ?_
  refine thn (hi.run pins s2 σ H2 _ I2 q2) fun iv s3 ⟨y, H3, I3, ry, d, a, kvs, k, ex, ey, e3, ks, key, hz, q3⟩ => ?_
  subst ex ey
  cases (show u = Value.ref d from rx)
  cases (show iv = Value.ref a from ry)
  obtain ⟨z, hd, xs, rel, dd⟩ := nd_of I3 e3 ks
  have hx : xs.length ≤ sizeLine := by rw [← Paired.length rel]; exact z
  refine wpAny_setItem_heap (knd := nestedKind X.prog X.w) (hsz := hx) (show X.A.in1.units + 8 < cLine from (by show X.A.units + 1 + 8 < cLine; omega)) (key_is I3 key) dd fun h' dd' hs' => ?_
  exact ⟨σ, _, nd_write I3 e3 hz hd rel rv dd' hs', q3⟩
theorem cr_lenN : CallR X (.builtin "len") (rLenN X.prog X.w X.K) := by
  intro pins s σ H vs us Q I r h
  obtain ⟨D, kvs, rfl, e, ks, q⟩ := h
  rw [Vals.ref1 r]
  obtain ⟨z, hd, xs, rel, dd⟩ := nd_of I e ks
  have el : kvs.length = xs.length := Paired.length rel
  refine call_len_dictH hd dd (by have := sizeLine_eq; omega) ?_
  rw [← el]
  exact ⟨.int _, H, I.tok _, ⟨_, rfl⟩, q⟩
theorem uLenN (hP : X.prog = P := by rfl) (hw : X.w = w := by rfl) (hK : X.K = K := by rfl) : CallR X (.builtin "len") (rLenN P w K) := by subst hP hw hK; exact cr_lenN
end
/-! ### < of alike data -/
def rLtA (K : PySem.W.Frag) : R2 := fun x y H Q => ∃ d e, Dp K H x d ∧ Dp K H y e ∧ PySem.W.alike d e = true ∧ d ≠ .none ∧ d.depth ≤ 40 ∧ Q (.bl (PySem.W.dataLt d e)) H
theorem op_ltA {X : Cx} (hu : X.A.units + 64 < cLine) : OpR X (compareOp .Lt) (rLtA X.K) := by
  intro pins s σ H x y v u Q I rx ry h
  obtain ⟨d, e, hx, hy, al, nn, dp, q⟩ := h
  obtain ⟨as, r1⟩ := Dp.reads I d x v hx rx
  obtain ⟨bs, r2⟩ := Dp.reads I e y u hy ry
  exact PySem.W.rcLt_alike d e X.A s v u as bs r1 r2 al nn (by omega) X.prog X.w _ _ ⟨.bl _, H, I, rfl, q⟩
theorem uLtAK {X : Cx} (K : PySem.W.Frag) (hu : X.A.units + 64 < cLine) (h : X.K = K := by rfl) : OpR X (compareOp .Lt) (rLtA K) := h ▸ op_ltA hu
theorem dlt_irr (d : PyData) : PySem.W.dataLt d d = false := lex_irrefl _
theorem dlt_trans {a b c : PyData} (h1 : PySem.W.dataLt a b = true) (h2 : PySem.W.dataLt b c = true) : PySem.W.dataLt a c = true := lex_trans _ _ _ h1 h2
theorem dlt_eqv {a b : PyData} (al : PySem.W.alike a b = true) (h1 : PySem.W.dataLt a b = false) (h2 : PySem.W.dataLt b a = false) : PyData.eqv a b = true := by
  cases e : PyData.eqv a b with
  | true => rfl
  | false =>
    have k := lex_total (O := itemOrd) (PySem.W.keyToks a) (PySem.W.keyToks b) h1 h2
    have z := (PySem.W.toks_eqv a b al).2 e [] [.inl 0]
    rw [← k, PySem.W.lex_pre] at z
    rw [lex_irrefl] at z
    cases z
/-! ### max(a list of ints, default=k) -/
def maxO (k : Int) : List Int → Int
  | [] => k
  | n :: ns => ns.foldl max n
def rMaxD (K : PySem.W.Frag) : List V → List V → Hp → VK → Prop := fun vs zs H Q => ∃ (a : Addr) (ns : List Int) (k : Int), vs = [V.ref a] ∧ zs = [V.int k] ∧ SqL K H a (ns.map V.int) ∧ Q (.int (maxO k ns)) H
theorem cr_maxD {X : Cx} (hc : X.calm = true) (hu : X.A.units + 64 < cLine) : CallRK X (.builtin "max") [Str.ofString "default"] (rMaxD X.K) := by
  intro pins s σ H vs zs us ws Q I r rz h
  obtain ⟨a, ns, k, rfl, rfl, hs, q⟩ := h
  obtain rfl := Vals.ref1 r
  obtain ⟨w1, rfl, e1⟩ := vals1 rz
  obtain ⟨tk, rfl⟩ := e1
  obtain ⟨its, rv, hl, _⟩ := I.list hs
  obtain ⟨as, hr⟩ := Dp.readsAll I (ns.map .int) _ its (dps_of_ints ns) rv
  refine PySem.W.max_list_default (xs := ns.map .int) (vs := its.toArray) (I.ok.hd hc) hl.isList (by simpa using hr) (alike_of_ints ns) (by rw [deep_ints]; omega) (fun e h' tk' hk => ?_) fun y ys i v h' tk' bs e hv hrd hk => ?_
  · cases ns with
    | nil => exact ⟨.int k, H, I.kept hk, ⟨tk, rfl⟩, q⟩
    | cons n ns => cases e
  · cases ns with
    | nil => cases e
    | cons n ns =>
      cases e
      rw [PySem.W.maxD_ints] at hrd
      cases hrd
      exact ⟨.int _, H, I.kept hk, ⟨_, rfl⟩, q⟩
theorem uMaxDK {X : Cx} (K : PySem.W.Frag) (hc : X.calm = true) (hu : X.A.units + 64 < cLine) (h : X.K = K := by rfl) : CallRK X (.builtin "max") [Str.ofString "default"] (rMaxD K) := h ▸ cr_maxD hc hu
/-! ### by data -/
def ndC (P : Program) (w : World) (K : PySem.W.Frag) (kd : KD) : Addr → Hp → HO → Prop := fun D F u => ∃ kvs, u = ndO P w D kvs ∧ Nd K F kvs kd
section
variable {P : Program} {w : World} {g : Gd} {G G' : List Sl} {te tk tv tx ta : TE} {tw : TS} {d x y k : PyData} {kd : KD} {i j : Nat} {D : Ends} {C C' : Addr → Hp → HO → Prop}
theorem Holds.obMut {σ : L2.St} {F H : Hp} {p : Addr} {u u' : HO} (hh : Holds g G σ F H) (h : G[i]? = some (.ob C)) (e : σ[i]? = some (some (.ref p))) (h0 : g.H0 p = none) (hF : F p = none) (hH : H p = some u) (nt : ∀ ps, u ≠ .tbl ps) (nt' : ∀ ps, u' ≠ .tbl ps) (hC : ∀ F', Ex F F' → C' p F' u') : Holds g (G.set i (.ob C')) σ F (upd H p u') := by
  have hi : i < σ.length := (List.getElem?_eq_some_iff.mp e).1
  have same : σ.set i (some (.ref p)) = σ := List.ext_getElem? fun j => by
    by_cases hj : i = j
    · subst hj; rw [List.getElem?_set_self hi, e]
    · rw [List.getElem?_set_ne hj]
  have lose : Holds g (G.set i .un) σ F H := hh.weak (by rw [List.length_set]) fun j s ej => by
    by_cases hj : i = j
    · subst hj; rw [List.getElem?_set_self (by rw [← hh.len]; exact hi)] at ej; cases ej; exact .inl rfl
    · rw [List.getElem?_set_ne hj] at ej; exact .inr ej
  have other : ∀ (j : Nat) (t : Sl), j ≠ i → G[j]? = some t → t.mine = true → σ[j]? ≠ some (some (.ref p)) := fun j t hj ej m z => hj (hh.apart j i t (.ob C) p ej h m rfl z e)
  have chg := lose.mut (o2 := u') h0 hF hH nt fun j t ej m => by
    by_cases hj : i = j
    · subst hj; rw [List.getElem?_set_self (by rw [← hh.len]; exact hi)] at ej; cases ej; cases m
    · rw [List.getElem?_set_ne hj] at ej; exact other j t (Ne.symm hj) ej m
  have fin := chg.set (i := i) (v := .ref p) (s := .ob C') ⟨p, u', rfl, h0, hF, upd_same, nt', hC⟩ fun _ j t hj ej m => by
    rw [List.getElem?_set_ne (Ne.symm hj)] at ej; exact other j t hj ej m
  rw [List.set_set, same] at fin
  exact fin
theorem s_dnewN (kk : N g D.nx (G.set i (.ob (ndC P w g.K [])))) : S g (tAsg (tDNewN P w) (gName i)) D G := fun σ F H hh p hp =>
  kk _ F _ ((hh.mono (Stp.mine hh.st.i hp)).set (s := .ob (ndC P w g.K [])) ⟨p, _, rfl, old_free hh.st hp, hh.st.i.free hp, upd_same, ndO_nt, fun _ _ => ⟨[], rfl, .nil⟩⟩ fun _ j t _ e1 m e2 => new_ok hh hp j ⟨t, e1, m⟩ e2)
theorem q_dnewN (kk : S g tw D (G.set i (.ob (ndC P w g.K [])))) : S g (tSeq (tAsg (tDNewN P w) (gName i)) tw) D G := s_dnewN (D := { D with nx := tw D }) kk
/-- the own dict at the moment -/
theorem nd_own {σ : L2.St} {F H : Hp} (hh : Holds g G σ F H) (h : G[i]? = some (.ob (ndC P w g.K kd))) : ∃ p kvs, σ[i]? = some (some (.ref p)) ∧ g.H0 p = none ∧ F p = none ∧ H p = some (ndO P w p kvs) ∧ Nd g.K F kvs kd := by
  obtain ⟨o, e, p, u, rfl, h0, hF, hH, nt, hC⟩ := hh.at_ h
  obtain ⟨kvs, rfl, nd⟩ := hC F (Ex.refl F)
  exact ⟨p, kvs, e, h0, hF, hH, nd⟩
theorem tup_ref {K : PySem.W.Frag} {F : Hp} {v : V} (ht : ∃ l, k = .tuple l) (h : Dp K F v k) : ∃ a, v = .ref a := by
  obtain ⟨l, el⟩ := ht
  rw [el] at h
  obtain ⟨a, _, e, _⟩ := dp_tq h
  exact ⟨a, e⟩
theorem e_inNo (h : G[j]? = some (.ob (ndC P w g.K kd))) (hk : B g tk G k) (ky : kyD k = true) (dk : (nk k).depth ≤ 8) (ht : ∃ l, k = .tuple l) : E g (tOp (rInN P w g.K) tk (tVar j)) G (.bool (hasN kd k)) := fun σ F H hh Q q => hk σ F H hh _ fun v F1 H1 s1 d1 => by
  have hh1 := hh.mono s1
  obtain ⟨D, kvs, eo, _, _, hH, nd⟩ := nd_own hh1 h
  obtain ⟨a, rfl⟩ := tup_ref ht d1
  refine ⟨.ref D, eo, a, D, kvs, nk k, rfl, rfl, hH, fun p hp => (nd.keys p hp).mono hh1.st.i.ex, ⟨k, ky, rfl, dk, d1⟩, ?_⟩
  rw [nd.isSome]
  exact q _ F1 H1 s1 (.bl _)
theorem e_niNo (h : G[j]? = some (.ob (ndC P w g.K kd))) (hk : B g tk G k) (ky : kyD k = true) (dk : (nk k).depth ≤ 8) (ht : ∃ l, k = .tuple l) : E g (tOp (rNiN P w g.K) tk (tVar j)) G (.bool (!hasN kd k)) := fun σ F H hh Q q => hk σ F H hh _ fun v F1 H1 s1 d1 => by
  have hh1 := hh.mono s1
  obtain ⟨D, kvs, eo, _, _, hH, nd⟩ := nd_own hh1 h
  obtain ⟨a, rfl⟩ := tup_ref ht d1
  refine ⟨.ref D, eo, a, D, kvs, nk k, rfl, rfl, hH, fun p hp => (nd.keys p hp).mono hh1.st.i.ex, ⟨k, ky, rfl, dk, d1⟩, ?_⟩
  rw [nd.isSome]
  exact q _ F1 H1 s1 (.bl _)
/-- d.get(k) -/
theorem e_get1No (h : G[j]? = some (.ob (ndC P w g.K kd))) (hk : E g tk G k) (ky : kyD k = true) (dk : (nk k).depth ≤ 8) (ht : ∃ l, k = .tuple l) : E g (tDGet1N P w g.K (tVar j) tk) G ((getN kd k).getD .none) := fun σ F H hh Q q => by
  obtain ⟨D, kvs0, eo, _, _, hH0, nd0⟩ := nd_own hh h
  refine ⟨.ref D, eo, D, kvs0, rfl, hH0, fun p hp => (nd0.keys p hp).mono hh.st.i.ex, hk σ F H hh _ fun v F1 H1 s1 d1 => ?_⟩
  have hh1 := hh.mono s1
  obtain ⟨D', kvs, eo', _, _, hH, nd⟩ := nd_own hh1 h
  obtain rfl : D' = D := by rw [eo] at eo'; cases eo'; rfl
  obtain ⟨a, rfl⟩ := tup_ref ht d1
  refine ⟨a, kvs, nk k, rfl, hH, fun p hp => (nd.keys p hp).mono hh1.st.i.ex, ⟨k, ky, rfl, dk, s1.i.ex.dp _ _ d1⟩, ?_⟩
  rcases nd.at_ k with ⟨e1, e2, _⟩ | ⟨b, u, d', e1, e2, _, dd⟩
  · rw [e2] at q; rw [e1]; exact q V.non F1 H1 s1 .non
  · rw [e2] at q; rw [e1]; exact q u F1 H1 s1 dd
/-- d[k] -/
theorem e_getNo (h : G[j]? = some (.ob (ndC P w g.K kd))) (hk : E g tk G k) (ky : kyD k = true) (dk : (nk k).depth ≤ 8) (ht : ∃ l, k = .tuple l) (e : getN kd k = some d) : E g (tDGetN P w g.K (tVar j) tk) G d := fun σ F H hh Q q => by
  obtain ⟨D, kvs0, eo, _, _, hH0, nd0⟩ := nd_own hh h
  refine ⟨.ref D, eo, hk σ F H hh _ fun v F1 H1 s1 d1 => ?_⟩
  have hh1 := hh.mono s1
  obtain ⟨D', kvs, eo', _, _, hH, nd⟩ := nd_own hh1 h
  obtain rfl : D' = D := by rw [eo] at eo'; cases eo'; rfl
  obtain ⟨a, rfl⟩ := tup_ref ht d1
  rcases nd.at_ k with ⟨e1, e2, _⟩ | ⟨b, u, d', e1, e2, _, dd⟩
  · rw [e] at e2; cases e2
  · rw [e] at e2; cases e2
    exact ⟨D', a, kvs, nk k, b, u, rfl, rfl, hH, fun p hp => (nd.keys p hp).mono hh1.st.i.ex, ⟨k, ky, rfl, dk, s1.i.ex.dp _ _ d1⟩, e1, q u F1 H1 s1 dd⟩
theorem e_lenNo (h : G[j]? = some (.ob (ndC P w g.K kd))) : E g (tCB (rLenN P w g.K) (tCons (tVar j) tNil)) G (.int kd.length) := fun σ F H hh Q q => by
  obtain ⟨D, kvs, eo, _, _, hH, nd⟩ := nd_own hh h
  refine ⟨.ref D, eo, D, kvs, rfl, hH, fun p hp => (nd.keys p hp).mono hh.st.i.ex, ?_⟩
  rw [nd.len]
  exact q _ F H (Stp.refl hh.st.i) (.int _)
/-- d[k] = v -/
theorem s_dputN (h : G[i]? = some (.ob (ndC P w g.K kd))) (hk : E g tk G k) (ky : kyD k = true) (dk : (nk k).depth ≤ 8) (ht : ∃ l, k = .tuple l) (hv : E g tv G d) (hz : kd.length < 100000) (kk : N g D.nx (G.set i (.ob (ndC P w g.K (putN kd k d))))) : S g (sDPutN P w g.K (tVar i) tk tv) D G := fun σ F H hh => hv σ F H hh _ fun v F1 H1 s1 d1 => by
  obtain ⟨p, kvs0, eo, _⟩ := nd_own hh h
  refine ⟨.ref p, eo, hk σ F1 H1 (hh.mono s1) _ fun u F2 H2 s2 d2 => ?_⟩
  have hh2 := (hh.mono s1).mono s2
  obtain ⟨p', kvs, eo', h0, hF, hH, nd⟩ := nd_own hh2 h
  obtain rfl : p' = p := by rw [eo] at eo'; cases eo'; rfl
  obtain ⟨a, rfl⟩ := tup_ref ht d2
  refine ⟨p', a, kvs, nk k, rfl, rfl, hH, fun q hq => (nd.keys q hq).mono hh2.st.i.ex, ⟨k, ky, rfl, dk, s2.i.ex.dp _ _ d2⟩, Nat.lt_of_lt_of_le (by rw [nd.len]; exact hz) (by decide), ?_⟩
  refine kk σ F2 _ (hh2.obMut h eo' h0 hF hH ndO_nt ndO_nt fun F3 e3 => ⟨_, rfl, ?_⟩)
  exact (nd.put ⟨rfl, ky, dk, d2, s2.f.dp _ _ d1⟩).mono e3
theorem ltA (al : PySem.W.alike x y = true) (nn : x ≠ .none) (dp : x.depth ≤ 40) : RB g (rLtA g.K) x y (.bool (PySem.W.dataLt x y)) := fun u v H hu hv Q q => ⟨x, y, hu, hv, al, nn, dp, q _ (.bl _)⟩
theorem e_maxD {ns : List Int} {n : Int} (h : B g ta G (.list (ns.map .int))) : E g (tCKw (rMaxD g.K) (tCons ta tNil) (tCons (tC (.int n)) tNil)) G (.int (maxO n ns)) := fun σ F H hh Q q => h σ F H hh _ fun v F1 H1 s1 d1 => by
  obtain ⟨a, vs, rfl, h1, h2⟩ := dp_sq d1
  have e := dps_vints h2
  subst e
  exact ⟨a, ns, n, rfl, rfl, h1, q _ F1 H1 s1 (.int _)⟩
end
end DW

/-! sorted of alike tuples, empty ones among them -/
namespace DW
open PySem PySem.Spec PySem.W PySem.SeqAt PyProof.Rows
section
variable {prog : Program} {w : World} {A : Around} {E : Value → Shared → Prop} {s : Shared}
/-- a tuple's own < , as sorting asks it where all keys are tuples and the first is empty -/
theorem own_lt {xs ys : List PyData} {a b : Value} {as bs : List Addr} {Q : Bool → Shared → Prop} (ra : Reads s.heap a (.tuple xs) as) (rb : Reads s.heap b (.tuple ys) bs) (h : PySem.W.alike (.tuple xs) (.tuple ys) = true)
    (hu : A.units + min (PyData.tuple xs).depth (PyData.tuple ys).depth < cLine) (hq : Q (dataLt (.tuple xs) (.tuple ys)) s) : wpAny (model prog w) A (oneLt' true a b) Q E s := by
  have hal : PySem.W.alikeAll xs ys = true := by simpa [PySem.W.alike] using h
  cases ra with
  | @tuple l o vs n _ _ h1 h2 h3 h4 =>
    cases rb with
    | @tuple l' o' vs' n' _ _ k1 k2 k3 k4 =>
      obtain ⟨cls, dd, data, sl⟩ := o
      obtain ⟨cls', dd', data', sl'⟩ := o'
      have h2 : cls = .type "tuple" := h2
      have k2 : cls' = .type "tuple" := k2
      have h3 : data = .seq vs n := h3
      have k3 : data' = .seq vs' n' := k3
      subst h2 k2 h3 k3
      have n1 : vs.size = xs.length := by simpa using ReadsAll.length _ _ _ h4
      have n2 : vs'.size = ys.length := by simpa using ReadsAll.length _ _ _ k4
      rw [dataLt_tuple, ← firstLt_toks xs ys hal, ← n1, ← n2] at hq
      rw [oneLt'_eq, if_pos rfl]
      refine wpAny_bind (wpAny_cRoomFor (room_here hu) ?_)
      refine wpAny_bind (wpAny_callSpecialIfBound?_slot (T := "tuple") ⟨_, h1, rfl⟩ PySem.F.slot_tuple_lt ?_)
      refine call_meets PySem.F.slot_tuple_lt ⟨_, h1, rfl⟩ PySem.F.entry_tuple_lt (PySem.F.args_tuple_lt_2 _ _) (tuple_ltAt l l' vs vs' n n' dd dd' sl sl' (pairEq xs ys) (fun j => dataLt (xs.getD j .none) (ys.getD j .none))) ⟨h1, k1, fun j j1 j2 => ?_, fun j j1 j2 hj => ?_, wpAny_truthy_bool hq⟩
      · have z := eqAt_alikeAll xs ys A.in1 s vs.toList vs'.toList _ _ h4 k4 hal (room_in hu) j (by rw [Array.length_toList]; exact j1) (by rw [Array.length_toList]; exact j2)
        rw [Array.getElem_toList, Array.getElem_toList] at z
        exact z
      · have z := rcLt_alikeAll xs ys A.in1 s vs.toList vs'.toList _ _ h4 k4 hal (room_in hu) j (by rw [Array.length_toList]; exact j1) (by rw [Array.length_toList]; exact j2) hj
        rw [Array.getElem_toList, Array.getElem_toList] at z
        exact z
theorem gen_lt_eq (x y : Value) : keyLt' general' x y = oneLt' false x y := rfl
/-- the first items, none for an empty tuple -/
theorem firsts_tup : ∀ {vs : List Value} {ds : List PyData} {Q : List (Option Value) → Shared → Prop}, EachIs (fun v d => ∃ as, Reads s.heap v d as) vs ds → (∀ d ∈ ds, ∃ xs, d = .tuple xs) →
    (∀ os : List (Option Value), EachIs (fun (o : Option Value) d => (o = none ↔ d = .tuple [])) os ds → Q os s) → wpAny (model prog w) A (vs.mapM firstOfTuple') Q E s
  | _, _, Q, .nil, _, h => by rw [List.mapM_nil]; exact wpAny_pure (h [] .nil)
  | _, _, Q, .cons (b := d) ⟨as, r⟩ t, ht, h => by
    obtain ⟨xs, rfl⟩ := ht d (List.mem_cons_self ..)
    rw [List.mapM_cons]
    refine wpAny_bind ?_
    rw [kas_first_eq]
    cases r with
    | @tuple a o vs n _ _ ho hc hd hr =>
      refine wpAny_bind (Looks.here (show Looks (model prog w) s.heap (typeOf (.ref a)) o.cls from (Looks.ld ho).andThen .now) ?_)
      rw [hc, if_neg (by first | decide | simp)]
      refine wpAny_bind (listItems_at ho hd (wpAny_pure (wpAny_bind ?_)))
      refine firsts_tup (Q := fun bs s' => wpAny (model prog w) A (pure (vs[0]? :: bs)) Q E s') t (fun d hd => ht d (List.mem_cons_of_mem _ hd)) fun os eo => wpAny_pure (h _ (.cons ?_ eo))
      have n1 : vs.size = xs.length := by simpa using ReadsAll.length _ _ _ hr
      cases xs with
      | nil =>
        have : vs[0]? = none := Array.getElem?_eq_none (by rw [n1]; exact Nat.le_refl _)
        rw [this]
        exact ⟨fun _ => rfl, fun _ => rfl⟩
      | cons x xs =>
        have hz : 0 < vs.size := by rw [n1]; exact Nat.succ_pos _
        have : vs[0]? = some (vs[0]'hz) := Array.getElem?_eq_getElem hz
        rw [this]
        exact ⟨(fun z => by cases z), (fun z => by cases z)⟩
theorem eachIs_get {α β : Type} {R : α → β → Prop} : ∀ {as : List α} {bs : List β} {b : β}, EachIs R as bs → b ∈ bs → ∃ a ∈ as, R a b
  | _, _, b, .cons h t, hb => by
    rcases List.mem_cons.mp hb with rfl | hb
    · exact ⟨_, List.mem_cons_self .., h⟩
    · obtain ⟨a, m, r⟩ := eachIs_get t hb
      exact ⟨a, List.mem_cons_of_mem _ m, r⟩
noncomputable def kdT : List PyData → SortKind
  | .tuple [] :: _ => oneType'
  | _ => general'
theorem kdT_no {d : PyData} {ds : List PyData} (h : d ≠ .tuple []) : kdT (d :: ds) = general' := by
  unfold kdT
  split
  · rename_i e
    injection e with e _
    exact absurd e h
  · rfl
theorem kind_tup {vs : List Value} {ds : List PyData} (e : EachIs (fun v d => ∃ as, Reads s.heap v d as) vs ds) (ht : ∀ d ∈ ds, ∃ xs, d = .tuple xs) (he : PyData.tuple [] ∈ ds) {Q : SortKind → Shared → Prop} (h : Q (kdT ds) s) :
    wpAny (model prog w) A (keyKind' vs.toArray) Q E s := by
  rw [kat_kind_eq, List.mapM_toArray, map_eq_pure_bind]
  refine wpAny_bind (wpAny_bind (firsts_tup e ht fun os eo => wpAny_pure ?_))
  have na : (os.toArray.all fun x => x.isSome) = false := by
    obtain ⟨o, mo, ro⟩ := eachIs_get eo he
    rw [ro.mpr rfl] at mo
    rw [List.all_toArray, List.all_eq_false]
    exact ⟨none, mo, by decide⟩
  rw [if_neg (by rw [na]; decide)]
  cases eo with
  | nil => cases he
  | @cons o d os ds ro eo =>
    by_cases hd : d = .tuple []
    · have o0 := ro.mpr hd
      subst hd o0
      rw [if_neg (by simp)]
      rw [oneTypeOnly'_eq, List.mapM_toArray, map_eq_pure_bind]
      have tys : ∀ v ∈ vs, Looks (model prog w) s.heap (typeOf v) (Value.type "tuple") := fun v hv => by
        obtain ⟨d, hd, as, r⟩ := e.left v hv
        obtain ⟨xs, rfl⟩ := ht d hd
        exact looks_reads r
      refine wpAny_bind (wpAny_bind (wpAny_bind (kas_mapM (r := Value.type "tuple") _ (fun v hv Q' hq => (tys v hv).here hq) (wpAny_pure ?_))))
      cases e with
      | cons r0 e0 =>
        rename_i v0 vs0
        have h0 : (List.map (fun _ => Value.type "tuple") (v0 :: vs0)).toArray[0]? = some (Value.type "tuple") := by simp
        have hall : ((List.map (fun _ => Value.type "tuple") (v0 :: vs0)).toArray.all fun x => x == Value.type "tuple") = true := by
          simp only [List.all_toArray, List.all_map, List.all_eq_true]
          intro _ _
          rfl
        rw [h0]
        simp only [hall, if_true]
        exact wpAny_pure (wpAny_pure h)
    · rw [kdT_no hd] at h
      obtain ⟨x, rfl⟩ : ∃ x, o = some x := by
        cases o with
        | none => exact absurd (ro.mp rfl) hd
        | some x => exact ⟨x, rfl⟩
      rw [if_pos (by simp)]
      exact wpAny_pure h
/-- alike tuples can be sorted -/
theorem sorts_tup {vs : List Value} {ds : List PyData} (e : EachIs (fun v d => ∃ as, Reads s.heap v d as) vs ds) (hal : AllAlike ds) (ht : ∀ d ∈ ds, ∃ xs, d = .tuple xs) (hu : ∀ d, d ∈ ds → A.units + d.depth < cLine) : SortsAt prog w A s (dataKind s.heap ds) vs := by
  by_cases he : PyData.tuple [] ∈ ds
  · refine ⟨fun v hv => ?_, kdT ds, ?_, fun _ E Q hq => kind_tup e ht he hq⟩
    · obtain ⟨d, hd, as, r⟩ := e.left v hv
      exact ⟨_, dataKind_some hal hd r⟩
    · intro E x y a b Q ha hb hq
      obtain ⟨d, as, hd, ra, rfl⟩ := dataKind_inv ha
      obtain ⟨d', as', hd', rb, rfl⟩ := dataKind_inv hb
      obtain ⟨xs, rfl⟩ := ht d hd
      obtain ⟨ys, rfl⟩ := ht d' hd'
      have room : A.units + min (PyData.tuple xs).depth (PyData.tuple ys).depth < cLine := Nat.lt_of_le_of_lt (Nat.add_le_add_left (Nat.min_le_left _ _) _) (hu _ hd)
      have two : kdT ds = oneType' ∨ kdT ds = general' := by
        unfold kdT
        split
        · exact .inl rfl
        · exact .inr rfl
      rcases two with k | k
      · rw [k, keyLt'_oneType]
        exact own_lt ra rb (hal _ hd _ hd') room hq
      · rw [k, gen_lt_eq]
        exact oneLt_alike (f := false) (fun z => nomatch z) ra rb (hal _ hd _ hd') (fun z => nomatch z) room hq
  · refine SortsAt.data e hal (.inl fun d hd => ?_) hu
    obtain ⟨xs, rfl⟩ := ht d hd
    cases xs with
    | nil => exact absurd hd he
    | cons x r => exact ⟨x, r, rfl⟩
theorem sorted_tups {β : Type} {vs : List Value} {bs : List β} {enc : β → PyData} {R : Value → β → Prop} {l : Addr} {Q : Value → Shared → Prop} (hl : s.heap.IsList l vs.toArray) (e : EachIs R vs bs) (er : EachIs (fun v b => ∃ as, Reads s.heap v (enc b) as) vs bs) (hal : AllAlike (bs.map enc)) (ht : ∀ d ∈ bs.map enc, ∃ xs, d = .tuple xs) (hL : bs.length ≤ sizeLine)
    (hu : ∀ b, b ∈ bs → A.units + 2 + (enc b).depth < cLine) (h : ∀ out, out.length = bs.length → EachIs R out (bs.mergeSort (dataLe false enc)) → Q (.ref (s.heap.objs.size + 1)) { s with heap := sortedAll s.heap vs (List.toArray out) }) :
    wpAny (model prog w) A (call (.builtin "sorted") [.ref l]) Q E s := by
  obtain ⟨h2, eh2⟩ : ∃ h2, h2 = sortingHeap (copyHeap s.heap vs) (s.heap.objs.size + 1) vs := ⟨_, rfl⟩
  have er' : EachIs (fun v b => ∃ as, Reads h2 v (enc b) as) vs bs := er.mono fun _ _ ⟨as, r⟩ => ⟨as, by rw [eh2]; exact PyProof.Rows.Reads.keeps (fun _ _ => sorting_copy_old) r⟩
  have so := sorts_tup (prog := prog) (w := w) (A := A.in1.in1) (s := { s with heap := h2 }) (each_map (R := fun v d => ∃ as, Reads h2 v d as) enc er') hal ht (fun d hd => by
    obtain ⟨b, hb, rfl⟩ := List.mem_map.mp hd
    exact hu b hb)
  subst eh2
  exact sorted_vals hl so (by rw [e.length]; exact hL) (h _ (by rw [sortVals_length false rfl]; exact e.length) (sortVals_data false e er' hal))
end
end DW
namespace DW
open PySem PySem.Spec PyProof.Rows L2
structure SoT (ds : List PyData) : Prop where
  al : PySem.W.AllAlike ds
  tu : ∀ d ∈ ds, ∃ xs, d = .tuple xs
  len : ds.length ≤ 100000
  dep : ∀ d ∈ ds, d.depth ≤ 40
def rSortE (K : PySem.W.Frag) : List V → Hp → VK → Prop := fun vs H Q => ∃ (a : Addr) (xs : List V) (ds : List PyData), vs = [.ref a] ∧ SqL K H a xs ∧ DpAll K H xs ds ∧ SoT ds ∧
  ∀ (zs : List (V × PyData)) (p : Addr), zs.Perm (xs.zip ds) → zs.map (·.2) = sortA ds → H p = none → Q (.ref p) (upd H p (.lst (zs.map (·.1))))
theorem cr_sortE {X : Cx} (hu : X.A.units + 64 < cLine) : CallR X (.builtin "sorted") (rSortE X.K) := by
  intro pins s σ H vs us Q I r h
  obtain ⟨a, xs, ds, rfl, hs, hd, ok, q⟩ := h
  obtain ⟨its, rv, hl, hz⟩ := I.list hs
  rw [Vals.ref1 r]
  obtain ⟨e1, e2⟩ := each_zip I hd rv
  have ln := dps_len hd
  have hm : (xs.zip ds).map (fun b => b.2) = ds := map_snd_zip ln
  have hlz : (xs.zip ds).length = ds.length := by rw [List.length_zip, ln]; omega
  have hmem : ∀ b ∈ xs.zip ds, b.2 ∈ ds := fun b hb => by rw [← hm]; exact List.mem_map.mpr ⟨b, hb, rfl⟩
  refine sorted_tups (bs := xs.zip ds) (enc := fun b => b.2) hl.isList e1 e2 (by rw [hm]; exact ok.al) (by rw [hm]; exact ok.tu) (by rw [hlz]; exact Nat.le_trans ok.len (by decide)) (fun b hb => by have := ok.dep _ (hmem b hb); omega) fun out lo eo => ?_
  obtain ⟨ep, he'⟩ := PyProof.Rows.sortedAll_at s.heap its out.toArray
  have hp := List.mergeSort_perm (xs.zip ds) (PySem.W.dataLe false fun b => b.2)
  have hlen : (((xs.zip ds).mergeSort (PySem.W.dataLe false fun b => b.2)).map (·.1)).length ≤ sizeLine := by
    rw [List.length_map, hp.length_eq, hlz]; exact Nat.le_trans ok.len (by decide)
  refine ⟨.ref _, upd H (s.heap.objs.size + 1) (.lst _), I.laid (t' := s.toks) (fun _ _ => PyProof.Rows.sortedAll_old) (Nat.le_succ _) ⟨hlen, out, ep, each_vals eo, he'⟩, rfl, q _ _ hp ?_ (I.hok.fresh (Nat.le_succ _))⟩
  refine (List.map_mergeSort (f := fun b : V × PyData => b.2) (r := PySem.W.dataLe false fun b => b.2) (s := PySem.W.dataLe false id) (fun a _ b _ => rfl)).trans ?_
  rw [hm]; rfl
theorem uSortEK {X : Cx} (K : PySem.W.Frag) (hu : X.A.units + 64 < cLine) (h : X.K = K := by rfl) : CallR X (.builtin "sorted") (rSortE K) := h ▸ cr_sortE hu
section
variable {g : Gd} {G : List Sl} {te ta tb : TE} {d x y : PyData} {ds es : List PyData} {i : Nat}
theorem el_sortE (h : E g te G (.list ds)) (ok : SoT ds) : EL g (tCB (rSortE g.K) (tCons te tNil)) G (sortA ds) := fun σ F H hh Q q => h σ F H hh _ fun v F1 H1 s1 d1 => by
  obtain ⟨a, vs, rfl, h1, h2⟩ := dp_sq d1
  refine ⟨a, vs, ds, rfl, s1.i.ex.l h1, s1.i.ex.dps ds vs h2, ok, fun zs p pm e hp => ?_⟩
  have hd := dps_of_zip (K := g.K) (F := F1) (zs := zs) fun z hz => zip_dps h2 z (pm.mem_iff.mp hz)
  rw [e] at hd
  exact q p _ F1 _ (s1.trans (Stp.mine s1.i hp)) (old_free s1 hp) (s1.i.free hp) upd_same hd
end
end DW

/-! texts: ' '.join(..), f'..', str(x), int(a truth value) -/
namespace DW
open PySem PySem.Spec PyProof.Rows L2
abbrev tS (i : Int) : Str := toString i
def rStrU : List V → Hp → VK → Prop := fun xs H Q => (∃ a, xs = [.str a] ∧ Q (.str a) H) ∨ ∃ i, xs = [.int i] ∧ i.natAbs.log2 < 1920 ∧ Q (.str (tS i)) H
theorem uStr {X : Cx} : CallR X (.type "str") rStrU := fun pins s σ H xs us Q I vs h => by
  rcases h with h | h
  · exact SkE.call_str_str pins s σ H xs us Q I vs h
  · exact call_str_int pins s σ H xs us Q I vs h
theorem str_s {a : Str} {g : Gd} : C1 g rStrU [.str a] (.str a) := fun vs H h Q q => by
  obtain ⟨v, rfl, hw⟩ := ab_one h
  cases hw
  exact .inl ⟨a, rfl, q _ (.str _)⟩
theorem str_i {i : Int} {g : Gd} (h : i.natAbs.log2 < 1920) : C1 g rStrU [.int i] (.str (tS i)) := fun vs H hv Q q => by
  obtain ⟨v, rfl, hw⟩ := ab_one hv
  cases hw
  exact .inr ⟨i, rfl, h, q _ (.str _)⟩
theorem int_bl {b : Bool} {g : Gd} : C1 g rIntU [.bool b] (.int (if b then 1 else 0)) := fun vs H h Q q => by
  obtain ⟨v, rfl, hw⟩ := ab_one h
  cases hw
  exact .inr ⟨b, rfl, q _ (.int _)⟩
theorem dps_vstrs {K : PySem.W.Frag} {F : Hp} : ∀ {vs : List V} {ys : List Str}, DpAll K F vs (ys.map .str) → vs = ys.map V.str
  | _, [], .nil => rfl
  | _, y :: ys, .cons h t => by
    cases h
    rw [dps_vstrs (ys := ys) t]; rfl
/-- sep.join(texts) -/
def rJoin (K : PySem.W.Frag) : V → List V → Hp → VK → Prop := fun x xs H Q => ∃ a p, ∃ ys : List Str, x = .str a ∧ xs = [.ref p] ∧ (SqL K H p (ys.map V.str) ∨ SqT K H p (ys.map V.str)) ∧ (ys.map (·.length)).sum + ys.length * a.length ≤ 16777216 ∧ Q (.str (Txt.join a ys)) H
theorem pe_joinK {X : Cx} {o e : Expr} {to te : TE} (K : PySem.W.Frag) {apos pos : Pos} (ho : PE X o to) (he : PE X e te) (h : X.K = K := by rfl) (hs : starEach [e] X.env = [(false, eval e X.env)] := by rfl) (hbase : attributeBase o "join" X.env (eval o X.env) = eval o X.env := by rfl) (hline : (apos.endLine == pos.line) = true := by rfl) :
    PE X (.Call (.Attribute o "join" apos) [e] [] pos) (tM1 (rJoin K) to te) := h ▸ pe_join ho he hs hbase hline
def sumL (ys : List Str) : Nat := (ys.map (·.length)).sum
theorem sumL_le {B : Nat} : ∀ {ys : List Str}, (∀ y ∈ ys, y.length ≤ B) → sumL ys ≤ ys.length * B
  | [], _ => Nat.zero_le _
  | y :: ys, h => by
    have ih := sumL_le (ys := ys) fun z hz => h z (List.mem_cons_of_mem _ hz)
    have h0 := h y List.mem_cons_self
    show y.length + sumL ys ≤ (ys.length + 1) * B
    rw [Nat.add_mul, Nat.one_mul]
    omega
section
variable {g : Gd} {G : List Sl} {te to : TE} {ys : List Str} {a : Str} {i : Int}
theorem e_joinL (ho : E g to G (.str a)) (h : B g te G (.list (ys.map .str))) (hz : sumL ys + ys.length * a.length ≤ 16777216) : E g (tM1 (rJoin g.K) to te) G (.str (Txt.join a ys)) := fun σ F H hh Q q => ho σ F H hh _ fun u F1 H1 s1 d1 => by
  cases d1
  refine ⟨⟨a, rfl⟩, h σ F1 H1 (hh.mono s1) _ fun v F2 H2 s2 d2 => ?_⟩
  obtain ⟨p, vs, rfl, h1, h2⟩ := dp_sq d2
  have e := dps_vstrs h2
  subst e
  exact ⟨a, p, ys, rfl, rfl, .inl h1, hz, q _ F2 H2 (s1.trans s2) (.str _)⟩
theorem e_joinT (ho : E g to G (.str a)) (h : B g te G (.tuple (ys.map .str))) (hz : sumL ys + ys.length * a.length ≤ 16777216) : E g (tM1 (rJoin g.K) to te) G (.str (Txt.join a ys)) := fun σ F H hh Q q => ho σ F H hh _ fun u F1 H1 s1 d1 => by
  cases d1
  refine ⟨⟨a, rfl⟩, h σ F1 H1 (hh.mono s1) _ fun v F2 H2 s2 d2 => ?_⟩
  obtain ⟨p, vs, rfl, h1, h2⟩ := dp_tq d2
  have e := dps_vstrs h2
  subst e
  exact ⟨a, p, ys, rfl, rfl, .inr h1, hz, q _ F2 H2 (s1.trans s2) (.str _)⟩
theorem e_fmtS (h : E g te G (.str a)) (hz : a.length ≤ 100000) : E g (tFmt te) G (.str a) := fun σ F H hh Q q => h σ F H hh _ fun v F1 H1 s1 d1 => by
  cases d1
  exact .inl ⟨a, rfl, Nat.le_trans hz (by decide), q _ F1 H1 s1 (.str _)⟩
theorem e_fmtI (h : E g te G (.int i)) (hz : i.natAbs.log2 < 1920) : E g (tFmt te) G (.str (tS i)) := fun σ F H hh Q q => h σ F H hh _ fun v F1 H1 s1 d1 => by
  cases d1
  exact .inr ⟨i, rfl, hz, q _ F1 H1 s1 (.str _)⟩
/-- the pieces of an f-string -/
inductive JE (g : Gd) (G : List Sl) : List TE → List Str → Prop
  | nil : JE g G [] []
  | cons {t : TE} {ts : List TE} {y : Str} {ys : List Str} (h : E g t G (.str y)) (r : JE g G ts ys) : JE g G (t :: ts) (y :: ys)
theorem app_len (a b : Str) : (a ++ b).length = a.length + b.length := Array.size_append
theorem js_run {ts : List TE} {ys : List Str} (h : JE g G ts ys) : ∀ (acc : Str) σ F H, Holds g G σ F H → acc.length + sumL ys ≤ 100000 → ∀ Q : Str → Hp → Prop, (∀ F' H', Stp F H F' H' → Q (ys.foldl (· ++ ·) acc) H') → tJs ts acc σ H Q := by
  induction h with
  | nil => exact fun acc σ F H hh _ Q q => q F H (Stp.refl hh.st.i)
  | @cons t ts y ys he _ ih =>
    intro acc σ F H hh hz Q q
    have hz' : acc.length + (y.length + sumL ys) ≤ 100000 := hz
    refine he σ F H hh _ fun v F1 H1 s1 d1 => ?_
    cases d1
    refine ⟨y, rfl, ?_, ih (acc ++ y) σ F1 H1 (hh.mono s1) (by rw [app_len]; omega) Q fun F2 H2 s2 => q F2 H2 (s1.trans s2)⟩
    rw [app_len]
    exact Nat.le_trans (show acc.length + y.length ≤ 100000 by omega) (by decide)
theorem e_js {ts : List TE} (h : JE g G ts ys) (hz : sumL ys ≤ 100000) : E g (fun σ H Q => tJs ts Str.empty σ H fun out H1 => Q (.str out) H1) G (.str (ys.foldl (· ++ ·) Str.empty)) := fun σ F H hh Q q =>
  js_run h Str.empty σ F H hh (by show 0 + _ ≤ _; omega) _ fun F1 H1 s1 => q _ F1 H1 s1 (.str _)
end
theorem emp_app (a : Str) : Str.empty ++ a = a := by
  cases a with
  | mk c => show (⟨(#[] : Array Nat) ++ c⟩ : Str) = ⟨c⟩; rw [Array.empty_append]
theorem tS_len {i : Int} (h : i.natAbs.log2 < 1920) : (tS i).length ≤ 1921 := int_text_len_1921 h
theorem log_fit {i : Int} (h1 : -10000000000000000 ≤ i) (h2 : i ≤ 10000000000000000) : i.natAbs.log2 < 1920 := by
  have hb : i.natAbs < 2 ^ 1920 := Nat.lt_of_lt_of_le (show i.natAbs < 2 ^ 60 by omega) (Nat.pow_le_pow_right (by decide) (by decide))
  by_cases h0 : i.natAbs = 0
  · rw [h0]; decide
  · exact (Nat.log2_lt h0).mpr hb
end DW

/-! own exceptions whose __init__(self, x) keeps one field: the def of __init__, raise C(e), try: y = f(..) / except C as e, e.f, isinstance(e, C2) -/
namespace DW
open PySem PySem.Spec PyProof.Rows L2
/-- what the text says of an own class with __init__(self, x): self.f = x -/
structure XiOk (P : Program) (w : World) (K : PySem.W.Frag) (mg : Str → Option Value) (base : Heap) (x : Str) (C : Addr) (f : Str) : Prop where
  gC : mg x = some (.ref C)
  T : OexC K C
  noF : PySem.W.findIn K (.ref C) f = some none
  ini : ∃ (fI : Addr) (fd : FuncData) (ps : List Str), PySem.W.findIn K (.ref C) "__init__" = some (some (.ref fI)) ∧ PySem.W.typeIn K (.ref fI) = some (.type "function") ∧ FnOk P w K mg base CX0 1 fI fd ps (spI1 C f) ∧ Binds K fd ps []
section
variable {P : Program} {w : World} {K : PySem.W.Frag} {mg : Str → Option Value} {base : Heap} {C : Addr} {f x qual p : Str} {st : Stmt} {fI : Addr} {fd : FuncData}
/-- the def of __init__ -/
theorem init_ok (F : Fun K "__init__" qual st fI fd) (Sc : FnScope ["self", p] ["self", p] (defScope st)) (hC : OexC K C) (hf : PySem.W.findIn K (.ref C) f = some none)
    (body : ∀ (cdv : Value) (A : Around) (outer : List Env) (s : Shared) (H : Hp) (E : XK), PSs (cxOf CX0 P w K mg base ["self", p] qual (defScope st) fI cdv A outer s H E).nox (defBody st) (tOst K f (tVar 0) (tVar 1))) :
    FnOk P w K mg base CX0 1 fI fd ["self", p] (spI1 C f) :=
  F.ok Sc (fun vs H Q E h => by obtain ⟨a, v, rfl, _⟩ := h; rfl) fun cdv A outer s H vs Q E hr h => ⟨_, body cdv A outer s H E, init1_t (n1 := "self") (n2 := p) (Ek := E) hC hf h⟩
end
/-- raise C(e) -/
theorem ps_raiseI {X : Cx} {x f : Str} {C : Addr} {e : Expr} {ta : TA} {k : Nat} {p pos pos2 : Pos} {W : WX} (hc : X.calm = true) (T : XiOk X.prog X.w X.K X.mg X.base x C f) (hr : Room k X.A) (hk : 2 ≤ k) (tk : Takes X W) (hg : Gl X x) (ha : PA X (e :: []) ta) (hdb : (x == ("__debug__" : Str)) = false := by decide)
    (he : starEach (e :: []) X.env = (false, eval e X.env) :: starEach [] X.env := by rfl) (hpl : (backTo pos (starEach [] X.env)).any (·.1) = false := by rfl) :
    PS X (.Raise (some (.Call (.Name x p) (e :: []) [] pos)) none pos2) (fun _ σ H => tMkO C (spI1 C f) [] ta σ H fun cls d H' => W cls d σ H') := by
  obtain ⟨fI, fd, ps, iC, tI, F1, hb⟩ := T.ini
  exact ps_raise hc tk (pmk_oex (CX := CX0) T.T iC tI F1 (hr.mono hk) hb .nil (fun _ _ _ _ _ _ _ z => z.elim) hg T.gC ha hdb he hpl)
/-- f(..), f a def that may raise -/
theorem pe_dfX {X : Cx} {k j : Nat} {x : Str} {ps : List Str} {sp : Sp} {e : Expr} {es : List Expr} {t : TA} {p pos : Pos} {W : WX} (D : DfX X.prog X.w X.K X.mg X.base j x ps sp) (hr : Room k X.A) (hj : j ≤ k) (hg : Gl X x) (tk : Takes X W) (ha : PA X (e :: es) t) (hdb : (x == ("__debug__" : Str)) = false := by decide)
    (he : starEach (e :: es) X.env = (false, eval e X.env) :: starEach es X.env := by rfl) (hpl : (backTo pos (starEach es X.env)).any (·.1) = false := by rfl) : PE X (.Call (.Name x p) (e :: es) [] pos) (tCallS sp (WE W) t) := by
  obtain ⟨f, fd, F, hm, hk, hb⟩ := D.ex
  exact pe_callS F (hr.mono hj) hg hm hk hb (fun σ => passAt tk σ) ha hdb he hpl
theorem xi_names {X : Cx} {x f : Str} {C : Addr} (T : XiOk X.prog X.w X.K X.mg X.base x C f) (hg : Gl X x) (hd : (x == ("__debug__" : Str)) = false := by decide) : Names X x (.ref C) := ⟨hg, hd, .inl T.gC⟩
end DW
namespace DW
open PySem PySem.Spec PyProof.Rows L2
theorem pe_xi {X : Cx} {x f : Str} {C : Addr} {pos : Pos} (T : XiOk X.prog X.w X.K X.mg X.base x C f) (hg : Gl X x) (hd : (x == ("__debug__" : Str)) = false := by decide) : PE X (.Name x pos) (tC (.ref C)) := pe_glob hg T.gC rfl hd
/-- isinstance(e, c), e the exception with a dict that the suite holds, whatever its class -/
def rIsI (K : PySem.W.Frag) (cls : Value) (d : Option Addr) (a : Addr) : List V → Hp → VK → Prop := fun xs H Q => ∃ D, cls = .ref D ∧ EcOk K D ∧ rIsEX K D a d xs H Q
theorem call_isI {X : Cx} {a : Addr} {cls : Value} {d : Option Addr} {oe : Obj} {pn : List (Addr × Obj)} (hz : Zc cls d oe) (hf : ∃ vs, oe.data = .fields vs) : CallR (X.suite a ((a, oe) :: pn)) (.builtin "isinstance") (rIsI X.K cls d a) := by
  intro pins s σ H xs us Q I r h
  obtain ⟨D, rfl, C, h⟩ := h
  exact call_isEX C hz hf pins s σ H xs us Q I r h
/-- what the text says of isinstance's answer for the class D, asked for C2 -/
structure IsI (K : PySem.W.Frag) (D C2 : Addr) (b : Bool) : Prop where
  c : EcOk K D
  k : PySem.W.kitOne K (.ref D) (.ref C2) = some b
theorem e_isI {g : Gd} {G : List Sl} {i : Nat} {a dx C2 D : Addr} {ws : List (Str × V)} {b : Bool} (hi : G[i]? = some (.raw (.ref a))) (hd : g.Fl dx = some (.xd ws)) (T : IsI g.K D C2 b) : E g (tCB (rIsI g.K (.ref D) (some dx) a) (tCons (tVar i) (tCons (tC (.ref C2)) tNil))) G (.bool b) := fun σ F H hh Q q => by
  obtain ⟨o, eo, ok⟩ := hh.at_ hi
  obtain rfl : o = some (.ref a) := ok
  have hF : F dx = some (.xd ws) := hh.lo dx _ hd fun _ z => by cases z
  have hH : H dx = some (.xd ws) := hh.st.i.ex dx _ hF fun _ z => by cases z
  exact ⟨.ref a, eo, D, rfl, T.c, .ref C2, .ref C2, b, dx, ws, rfl, fun u r => r, rfl, hH, T.k, q _ F H (Stp.refl hh.st.i) (.bl b)⟩
end DW

/-! sorted(d.items()), d an own dict by text keys -/
namespace DW
open PySem PySem.Spec PyProof.Rows L2
def rItemsS (K : PySem.W.Frag) : V → Hp → VK → Prop := fun x H Q => ∃ (d : Addr) (vs : List (Key × V)) (kvs : List (Str × PyData)), x = .ref d ∧ H d = some (.dK vs) ∧ KvOk K H vs kvs ∧ SoOk (kvs.map itD) ∧
  ∀ (H' : Hp) (p : Addr) (ts : List Addr) (zs : List (V × PyData)), (∀ b o, H b = some o → H' b = some o) → H p = none → (∀ t ∈ ts, H t = none) → p ∉ ts → Paired (fun (t : Addr) (q : Key × V) => H' t = some (.tup [kV q.1, q.2])) ts vs →
    zs.Perm ((ts.map V.ref).zip (kvs.map itD)) → zs.map (·.2) = sortA (kvs.map itD) → H' p = some (.lst (zs.map (·.1))) → Q (.ref p) H'
def tSortItems (K : PySem.W.Frag) (te : TE) : TE := fun σ H Q => te σ H fun x H1 => rItemsS K x H1 Q
section
variable {X : Cx} {e : Expr} {te : TE} {p apos cpos pos : Pos}
theorem items_tups {pins : List (Addr × Obj)} {σ : L2.St} {H : Hp} {s : Shared} {h' : Heap} {tk : Nat} {kvs : List (Key × V)} {vs : List (Key × Value)} {as : List Addr} (I : Inv X pins σ H s) (kv : KV kvs vs)
    (hk : ∀ b o, s.heap.get? b = some o → h'.get? b = some o) (hl : as.length = vs.length) (hG : PySem.W.KdxG (mixKind X.prog X.w) vs s.heap.objs.size h' as) :
    ∃ H' : Hp, (∀ b o, H b = some o → H' b = some o) ∧ (∀ t ∈ as, H t = none) ∧ Paired (fun (t : Addr) (q : Key × V) => H' t = some (.tup [kV q.1, q.2])) as kvs ∧ Inv X pins σ H' { s with heap := h', toks := tk } := by
  have lk : kvs.length = vs.length := Paired.length kv
  have nd : as.Nodup := List.Pairwise.imp (fun {a b} (h : a < b) => Nat.ne_of_lt h) hG.rise
  have new : ∀ t ∈ as, H t = none := fun t ht => I.hok.fresh (Nat.le_of_lt (hG.above t ht))
  have atP := LiI.putT_at as kvs H (by omega) nd
  have off : ∀ b, b ∉ as → LiI.putT H as kvs b = H b := fun b h1 => LiI.putT_off as kvs _ h1
  have low : ∀ b o, s.heap.get? b = some o → b ∉ as := fun b o e z => absurd (Heap.lt_size e) (Nat.not_lt.mpr (Nat.le_of_lt (hG.above b z)))
  have kp : ∀ b u, H b = some u → (LiI.putT H as kvs) b = some u := fun b u e => by
    rw [off b (fun z => by rw [new b z] at e; cases e)]
    exact e
  refine ⟨LiI.putT H as kvs, kp, new, atP, ?_⟩
  refine I.call' (ch := []) rfl ⟨fun b o q _ _ _ => hk b o q, fun b o q _ _ _ => ⟨o.slots, hk b o q⟩, fun b o q n _ => ?_, fun b o q _ => ⟨o, hk b o q⟩, fun b xs q => kp b _ q, fun b o u q => kp b _ q, fun b ps q => ⟨#[], by rw [kp b _ q]; simp⟩⟩ (fun b u q => ?_) I.bare fun b z => by simp at z
  · rw [off b (low b o q)]
    exact n
  · by_cases hb : b ∈ as
    · obtain ⟨j, pk, e1, e2, e3⟩ := LiI.paired_ix atP hb
      rw [e3] at q
      cases q
      obtain ⟨key, k, x, f1, f2, f3⟩ := hG.pairs j b e1
      obtain ⟨qv, g1, g2, g3⟩ := LiI.paired_get kv e2
      rw [f1] at g1
      cases g1
      have rk : RelV (kV pk.1) key := by
        rw [g2]
        exact relV_key (show keyIs k key = true from f2)
      exact ⟨by show 2 ≤ sizeLine; decide, [key, x], .cons rk (.cons g3 .nil), ⟨_, f3, rfl, _, rfl⟩⟩
    · rw [off b hb] at q
      exact (I.hok b u q).stay (fun d v _ y => hk d v y) (fun d y => kp d _ y) fun d xs y => kp d _ y
theorem each_fresh {h h2 : Heap} {a : Addr} (k : ∀ b o, h.get? b = some o → h2.get? b = some o) (ha : h.get? a = none) : ∀ {us : List Value} {zs : List (V × PyData)}, PySem.W.EachIs (fun (v : Value) (b : V × PyData) => ∃ as, Reads h v b.2 as) us zs → PySem.W.EachIs (fun (v : Value) (b : V × PyData) => ∃ as, Reads h2 v b.2 as ∧ a ∉ as) us zs
  | _, _, .nil => .nil
  | _, _, .cons ⟨as, r⟩ t => .cons ⟨as, Reads.keeps k r, fun z => by
    obtain ⟨o, e⟩ := PyProof.On.reads_mem_get r a z
    rw [ha] at e; cases e⟩ (each_fresh k ha t)
/-- sorted(e.items()) -/
theorem pe_sortItems (hu : X.A.units + 64 < cLine) (hc : X.calm = true) (he : PE X e te) (hg : Gl X "sorted") (hm : X.mg "sorted" = none) (hv : bootBuiltins "sorted" = some (.builtin "sorted")) (hbase : attributeBase e "items" X.env (eval e X.env) = eval e X.env := by rfl) (hline : (apos.endLine == cpos.line) = true := by rfl)
    (hs : starEach [.Call (.Attribute e "items" apos) [] [] cpos] X.env = (false, eval (.Call (.Attribute e "items" apos) [] [] cpos) X.env) :: starEach [] X.env := by rfl) :
    PE X (.Call (.Name "sorted" p) [.Call (.Attribute e "items" apos) [] [] cpos] [] pos) (tSortItems X.K te) := by
  refine ⟨fun pins s σ H Q I hq => ?_⟩
  refine wpAny_Call_Name_kw (ld_blt I hg hm hv ?_)
  refine PyProof.Rows.callWith_builtin1 ?_ hs rfl
  rw [hs]
  show wpAny _ _ (spliced ((false, eval (.Call (.Attribute e "items" apos) [] [] cpos) X.env) :: backTo pos (starEach [] X.env))) _ _ s
  refine Calls.spliced_cons ?_
  refine wpAny_Call_method (T := "dict") (id := "dict.items") hbase rfl hline F.plainAttrs_dict F.slot_dict_items F.type_dict_items (thn (he.run pins s σ H _ I hq) fun u s1 ⟨x, H1, I1, rx, d, kvs, dd, ex, hd, hkv, ok, q⟩ => ?_)
  subst ex
  obtain rfl : u = Value.ref d := rx
  obtain ⟨hz, hs0, vs, kv, hdo⟩ := I1.hok d _ hd
  obtain ⟨ep, hat⟩ := hdo.dictAt
  have lk : kvs.length = vs.length := Paired.length kv
  have I2 : Inv X pins σ H1 { s1 with heap := s1.heap.push { cls := .type "dict_items", data := .fields #[.ref d] } } := I1.kept (t' := s1.toks) fun b ob q => Heap.get?_push_of_some _ q
  refine ⟨hdo.typeIs, hdo.mapOf.noDict, ?_⟩
  show wpAny _ _ (callWith cpos (.builtin "dict.items") [.ref d] [] []) _ X.xe s1
  refine method_meetsIn F.slot_dict_items F.entry_dict_items rfl (PySem.evalArgs_none ⟨rfl, hdo.typeIs, F.args_dict_items_1 _, _, meets_dict_items (mixKind X.prog X.w) d hs0, ⟨vs, hdo⟩, ?_⟩)
  refine Calls.spliced_nil ?_
  refine PySem.Calls.call_function_entry kind_sorted plain_sorted entry_sorted (args_sorted1 _) ?_
  unfold Builtin.«sorted»
  refine wpAny_bind (m := checkCount "sorted" 1 1 _) (wpAny_pure ?_)
  refine wpAny_bind (PySem.W.kdx_collect (knd := mixKind X.prog X.w) (kvs := vs) (ep := ep) (I1.ok.hd hc) ⟨_, Heap.get?_push_size _ rfl, rfl, rfl⟩ (hat.push _) (by omega) fun h' tk as hk hl hG => ?_)
  refine wpAny_bind (wpAny_newList ?_ (by rw [List.length_map, hl]; omega))
  obtain ⟨H', k1, k3, k6, J⟩ := items_tups (tk := tk) I2 kv hk hl hG
  have hB : H' h'.objs.size = none := J.hok.fresh (Nat.le_refl _)
  have hBn : h'.get? h'.objs.size = none := by
    cases z : h'.get? h'.objs.size with
    | none => rfl
    | some o => exact absurd (Heap.lt_size z) (Nat.lt_irrefl _)
  have hkv' : KvOk X.K H' kvs dd := hkv.mono fun b u e _ => k1 b u e
  have hdp : DpAll X.K H' (as.map V.ref) (dd.map itD) := dps_items k6 hkv'
  have ln := dps_len hdp
  have hm2 : ((as.map V.ref).zip (dd.map itD)).map (fun b => b.2) = dd.map itD := map_snd_zip ln
  have hlz : ((as.map V.ref).zip (dd.map itD)).length = (dd.map itD).length := by rw [List.length_zip, ln]; omega
  have hmem : ∀ b ∈ (as.map V.ref).zip (dd.map itD), b.2 ∈ dd.map itD := fun b hb => by rw [← hm2]; exact List.mem_map.mpr ⟨b, hb, rfl⟩
  obtain ⟨e1, e2⟩ := each_zip J hdp (LiI.vals_refs as)
  have hob : (h'.push { cls := .type "list", data := .seq (as.map Value.ref).toArray }).get? h'.objs.size = some (seqObj "list" (as.map Value.ref).toArray 0) := Heap.get?_push_size _ rfl
  have e3 := each_fresh (h2 := h'.push { cls := .type "list", data := .seq (as.map Value.ref).toArray }) (fun b o e => Heap.get?_push_of_some _ e) hBn e2
  refine wpAny_bind (wpAny_holding (wpAny_mono (Q := fun _ s' => ∃ x H'', Inv X pins σ H'' s' ∧ RelV x (.ref h'.objs.size) ∧ Q x H'') (PySem.W.list_sort_data (bs := (as.map V.ref).zip (dd.map itD)) (enc := fun b => b.2) hob e1 e3 (by rw [hm2]; exact ok.al) (by rw [hm2]; exact ok.so) (by rw [hlz]; exact Nat.le_trans ok.len (by decide)) (fun b hb => ?_) fun out lo eo => ?_) (fun _ s' x => wpAny_pure ⟨_, rfl, x⟩) fun _ _ e => e))
  · have := ok.dep _ (hmem b hb)
    show X.A.in1.units + 1 + b.2.depth < cLine
    show X.A.units + 1 + 1 + b.2.depth < cLine
    omega
  · obtain ⟨ep2, he'⟩ := sortedHeap_at (out := out.toArray) hob
    have hp := List.mergeSort_perm ((as.map V.ref).zip (dd.map itD)) (PySem.W.dataLe false fun b => b.2)
    have hlen : ((((as.map V.ref).zip (dd.map itD)).mergeSort (PySem.W.dataLe false fun b => b.2)).map (·.1)).length ≤ sizeLine := by
      rw [List.length_map, hp.length_eq, hlz]; exact Nat.le_trans ok.len (by decide)
    have keep : ∀ b o, h'.get? b = some o → (sortedHeap (h'.push { cls := .type "list", data := .seq (as.map Value.ref).toArray }) h'.objs.size (as.map Value.ref) out.toArray).get? b = some o := fun b o e => by
      have hlt := Heap.lt_size e
      rw [sortedHeap_old (Nat.ne_of_lt hlt) (by rw [PyProof.Rows.size_push']; exact Nat.lt_succ_of_lt hlt)]
      exact Heap.get?_push_of_some _ e
    have neB : ∀ b o, H' b = some o → b ≠ h'.objs.size := fun b o e z => by rw [z, hB] at e; cases e
    refine ⟨.ref _, upd H' h'.objs.size (.lst _), J.laid (t' := tk) keep (Nat.le_refl _) ⟨hlen, out, ep2, each_vals eo, he'⟩, rfl, q _ _ as _ (fun b o e => ?_) ?_ k3 (fun z => ?_) (paired_imp k6 fun t ht y e => ?_) hp ?_ upd_same⟩
    · rw [upd_ne (neB b o (k1 b o e))]; exact k1 b o e
    · cases z : H1 h'.objs.size with
      | none => rfl
      | some o => have := k1 _ _ z; rw [hB] at this; cases this
    · obtain ⟨_, y, _, _, e⟩ := LiI.paired_ix k6 z
      rw [hB] at e; cases e
    · rw [upd_ne (neB t _ e)]; exact e
    · refine (List.map_mergeSort (f := fun b : V × PyData => b.2) (r := PySem.W.dataLe false fun b => b.2) (s := PySem.W.dataLe false id) (fun a _ b _ => rfl)).trans ?_
      rw [hm2]; rfl
end
end DW
namespace DW
open PySem PySem.Spec PyProof.Rows L2
section
variable {g : Gd} {G : List Sl} {kvs : List (Str × PyData)} {i : Nat}
theorem zip_dp {K : PySem.W.Frag} {F : Hp} : ∀ {xs : List V} {ds : List PyData}, DpAll K F xs ds → ∀ p ∈ xs.zip ds, Dp K F p.1 p.2
  | _, _, .nil, _, h => by cases h
  | _, _, .cons a t, p, h => by
    rw [List.zip_cons_cons] at h
    rcases List.mem_cons.mp h with rfl | h
    · exact a
    · exact zip_dp t p h
/-- sorted(d.items()) -/
theorem el_sortItems (h : G[i]? = some (.od kvs)) (ok : SoOk (kvs.map itD)) : EL g (tSortItems g.K (tVar i)) G (sortA (kvs.map itD)) := fun σ F H hh Q q => by
  obtain ⟨o, ev, p, vs, rfl, h0, hF, hH, hd⟩ := hh.at_ h
  refine ⟨.ref p, ev, p, vs, kvs, rfl, hH, hd.mono fun a u e n => hh.st.i.ex a u e n, ok, fun H' l ts zs hk hl ht hn hp hz hs hL => ?_⟩
  have tp : ∀ t ∈ ts, ∃ xs, H' t = some (.tup xs) := fun t htt => by
    obtain ⟨_, y, _, _, e⟩ := LiI.paired_ix hp htt
    exact ⟨_, e⟩
  have old : ∀ a u, F a = some u → a ∉ ts := fun a u e z => by
    have := hh.st.i.ex a u e (fun ps w => hh.st.i.nt a ps (by rw [e, w]))
    rw [ht a z] at this; cases this
  obtain ⟨F', fi, fo⟩ : ∃ F' : Hp, (∀ t ∈ ts, F' t = H' t) ∧ ∀ a, a ∉ ts → F' a = F a := by
    refine ⟨fun a => if a ∈ ts then H' a else F a, fun t h => if_pos h, fun a h => if_neg h⟩
  have st : Stp F H F' H' := by
    refine ⟨fun a u e n => by rw [fo a (old a u e)]; exact e, ⟨fun a u e n => ?_, fun a ps e => ?_⟩, fun a u e _ => hk a u e, fun a u e => ⟨u, hk a u e⟩, fun P t => ?_, fun a u e n => ?_⟩
    · by_cases z : a ∈ ts
      · rw [fi a z] at e; exact e
      · rw [fo a z] at e; exact hk a u (hh.st.i.ex a u e n)
    · by_cases z : a ∈ ts
      · obtain ⟨xs, hx⟩ := tp a z
        rw [fi a z, hx] at e; cases e
      · rw [fo a z] at e; exact hh.st.i.nt a ps e
    · obtain ⟨ps, e, r⟩ := t
      exact ⟨ps, hk _ _ e, r⟩
    · have z : a ∉ ts := fun z => by rw [ht a z] at e; cases e
      rw [fo a z]; exact n
  have hdp : DpAll g.K F' (ts.map V.ref) (kvs.map itD) := dps_items (paired_imp hp fun t htt y e => by rw [fi t htt]; exact e) (hd.mono st.f)
  refine q l (zs.map (·.1)) F' H' st hl (by rw [fo l hn]; exact hh.st.i.free hl) hL ?_
  rw [← hs]
  exact dps_of_zip fun z hz' => zip_dp hdp z (hz.mem_iff.mp hz')
end
end DW
namespace DW
open PySem PySem.Spec PyProof.Rows L2
/-- k in d, d an own dict by text keys -/
theorem t_din {g : Gd} {G : List Sl} {kvs : List (Str × PyData)} {i : Nat} {ty : TE} {k : Str} (h : (G[i]?).bind Sl.kv = some kvs) (hk : E g ty G (.str k)) : T g (tB (tDIn ty (tVar i))) G (getK kvs k).isSome := fun σ F H hh Q q => hk σ F H hh _ fun u F1 H1 s1 d1 => by
  cases d1
  obtain ⟨p, vs, ev, hr, hv⟩ := dict_at (hh.mono s1) h
  refine ⟨.ref p, ev, p, valV vs (Sum.inr k : Key), rfl, .inl ⟨vs, .inr k, hr, rfl, rfl⟩, (getK kvs k).isSome, ?_, q F1 H1 s1⟩
  cases e : getK kvs k with
  | none => rw [(kv_get hv).2 e]; rfl
  | some d =>
    obtain ⟨v, e1, e2⟩ := (kv_get hv).1 d e
    rw [e1]; rfl
end DW

/-! own dicts keyed by tuples: d.setdefault(k, v), sorted(d) -/
namespace DW
open PySem PySem.Spec PyProof.Rows L2
def tDSetdN (P : Program) (w : World) (K : PySem.W.Frag) (td ty tx : TE) : TE := fun σ H Q => td σ H fun x H1 => ∃ D kvs0, x = .ref D ∧ H1 D = some (ndO P w D kvs0) ∧ KeysAt K H1 kvs0 ∧ ty σ H1 fun y H2 => tx σ H2 fun z H3 => ∃ a kvs k, y = .ref a ∧ H3 D = some (ndO P w D kvs) ∧ KeysAt K H3 kvs ∧ KeyAt K H3 k a ∧ kvs.length < sizeLine ∧
  (∀ b v, atV kvs k = some (b, v) → Q v H3) ∧ (atV kvs k = none → Q z (upd H3 D (ndO P w D (storeV kvs k a z))))
section
variable {X : Cx} {o e f : Expr} {td ty tx : TE} {apos cpos pos : Pos} (P : Program) (w : World) (K : PySem.W.Frag)
theorem pe_dsetdN (hu : X.A.units + 64 < cLine) (ho : PE X o td) (he : PE X e ty) (hf : PE X f tx) (m : M2 X o "setdefault" apos e f cpos) (hP : X.prog = P := by rfl) (hw : X.w = w := by rfl) (hK : X.K = K := by rfl) : PE X (.Call (.Attribute o "setdefault" apos) [e, f] [] cpos) (tDSetdN P w K td ty tx) := by
  subst hP hw hK
  refine ⟨fun pins s σ H Q I h => ?_⟩
  refine wpAny_Call_method m.base m.few m.line PySem.F.plainAttrs_dict PySem.F.slot_dict_setdefault PySem.F.type_dict_setdefault ?_
  refine thn (ho.run pins s σ H _ I h) fun u s1 ⟨x, H1, I1, rx, D, kvs0, ex, d0, ks0, q1⟩ => ?_
  subst ex
  cases (show u = Value.ref D from rx)
  obtain ⟨_, _, xs0, _, dd0⟩ := nd_of I1 d0 ks0
  refine ⟨dd0.typeIs, fun b q => ?_, ?_⟩
  · cases q
    obtain ⟨ob, _, _, h1, h2, _⟩ := dd0
    exact ⟨ob, h1, h2.2.1⟩
  rw [m.trees]
  refine Calls.callWith_builtin rfl (Calls.evalArgs_plain (Calls.spliced_cons ?_))
  refine thn (he.run pins s1 σ H1 _ I1 q1) fun iv s2 ⟨y, H2, I2, ry, q2⟩ => Calls.spliced_cons ?_
  refine thn (hf.run pins s2 σ H2 _ I2 q2) fun fv s3 ⟨z, H3, I3, rz, a, kvs, k, ey, e3, ks, key, hz, q3, q4⟩ => Calls.spliced_nil ?_
  subst ey
  cases (show iv = Value.ref a from ry)
  obtain ⟨zl, hd, xs, rel, dd⟩ := nd_of I3 e3 ks
  have hx : xs.length ≤ sizeLine := by rw [← Paired.length rel]; exact zl
  refine call_meetsIn PySem.F.slot_dict_setdefault dd.typeIs PySem.F.entry_dict_setdefault (PySem.F.args_dict_setdefault_3 _ _ _) (meetsH_dict_setdefault (nestedKind X.prog X.w) D a hd fv) ⟨show X.A.in1.units + 8 < cLine from (by show X.A.units + 1 + 8 < cLine; omega), k, xs, key_is I3 key, dd, hx, fun p hp => ?_, fun hn h' dd' hs' => ?_⟩
  · rcases ndr_at k rel with ⟨_, e4⟩ | ⟨b', z', u', e1, e4, rr⟩
    · rw [hp] at e4; cases e4
    · rw [hp] at e4; cases e4
      exact ⟨z', H3, I3.tok _, rr, q3 b' z' e1⟩
  · rcases ndr_at k rel with ⟨e1, _⟩ | ⟨b', z', u', e1, e4, rr⟩
    · exact ⟨z, _, nd_write I3 e3 hz hd rel rz dd' hs', rz, q4 e1⟩
    · rw [hn] at e4; cases e4
/-- sorted(d) -/
def rSortN (P : Program) (w : World) (K : PySem.W.Frag) : List V → Hp → VK → Prop := fun vs H Q => ∃ (D : Addr) (kvs : List NE) (ds : List PyData), vs = [.ref D] ∧ H D = some (ndO P w D kvs) ∧ KeysAt K H kvs ∧ DpAll K H (kvs.map fun p => V.ref p.2.1) ds ∧ SoOk ds ∧
  ∀ (zs : List (V × PyData)) (p : Addr), zs.Perm ((kvs.map fun p => V.ref p.2.1).zip ds) → zs.map (·.2) = sortA ds → H p = none → Q (.ref p) (upd H p (.lst (zs.map (·.1))))
theorem ndr_keys : ∀ {kvs : List NE} {xs : List (NestedKey × Addr × Value)}, NdRel kvs xs → kvs.map (fun p => p.2.1) = xs.map fun x => x.2.1
  | _, _, .nil => rfl
  | _ :: _, _ :: _, .cons h t => by rw [List.map_cons, List.map_cons, h.2.1, ndr_keys t]
theorem vals_refsN : ∀ (l : List Addr), Vals (l.map V.ref) (l.map Value.ref)
  | [] => .nil
  | _ :: l => .cons rfl (vals_refsN l)
theorem cr_sortN (hc : X.calm = true) (hu : X.A.units + 64 < cLine) : CallR X (.builtin "sorted") (rSortN X.prog X.w X.K) := by
  intro pins s σ H vs us Q I r h
  obtain ⟨D, kvs, ds, rfl, hD, ks, hdp, ok, q⟩ := h
  rw [Vals.ref1 r]
  obtain ⟨zl, hd, xs, rel, dd⟩ := nd_of I hD ks
  obtain ⟨es, ep, raw, hsz, hes⟩ := dd.raw
  have lk : kvs.length = xs.length := Paired.length rel
  refine PySem.Calls.call_function_entry kind_sorted plain_sorted entry_sorted (args_sorted1 _) ?_
  unfold Builtin.«sorted»
  refine wpAny_bind (m := checkCount "sorted" 1 1 _) (wpAny_pure ?_)
  refine wpAny_bind (PySem.W.kdu_collect (A := X.A.in1) (KdlSrc.rawDict (es := es) (ep := ep) hd) (I.ok.hd hc) raw (by rw [hsz, ← lk]; exact zl) fun h' tk acc hk hacc => ?_)
  have hl : acc.toList.length = es.size := by rw [Array.length_toList]; exact hacc.1
  have hax : acc.toList = xs.map fun x => Value.ref x.2.1 := by
    apply List.ext_getElem?
    intro j
    rcases Nat.lt_or_ge j es.size with hj | hj
    · have hj' : j < acc.toList.length := by rw [hl]; exact hj
      obtain ⟨y, e1, e2, _⟩ := hes j hj
      obtain ⟨_, e3⟩ := hacc.2 j acc.toList[j] (by rw [← Array.getElem?_toList]; exact List.getElem?_eq_getElem hj')
      rw [List.getElem?_eq_getElem hj', e3, e2, List.getElem?_map, e1]; rfl
    · rw [List.getElem?_eq_none (by rw [hl]; exact hj), List.getElem?_eq_none (by rw [List.length_map, ← hsz]; exact hj)]
  have hak : acc.toList = (kvs.map fun p => p.2.1).map Value.ref := by rw [hax, ndr_keys rel, List.map_map]; rfl
  refine wpAny_bind (wpAny_newList ?_ (by rw [hl, hsz, ← lk]; exact zl))
  have J : Inv X pins σ H { s with heap := h', toks := tk } := I.kept hk
  have ln := dps_len hdp
  have hm2 : ((kvs.map fun p => V.ref p.2.1).zip ds).map (fun b => b.2) = ds := map_snd_zip ln
  have hlz : ((kvs.map fun p => V.ref p.2.1).zip ds).length = ds.length := by rw [List.length_zip, ln]; omega
  have hmem : ∀ b ∈ (kvs.map fun p => V.ref p.2.1).zip ds, b.2 ∈ ds := fun b hb => by rw [← hm2]; exact List.mem_map.mpr ⟨b, hb, rfl⟩
  have vr : Vals (kvs.map fun p => V.ref p.2.1) acc.toList := by
    rw [hak, show (kvs.map fun p => V.ref p.2.1) = (kvs.map fun p => p.2.1).map V.ref from (List.map_map ..).symm]
    exact vals_refsN _
  obtain ⟨e1, e2⟩ := each_zip J hdp vr
  have hBn : h'.get? h'.objs.size = none := by
    cases z : h'.get? h'.objs.size with
    | none => rfl
    | some o => exact absurd (Heap.lt_size z) (Nat.lt_irrefl _)
  have hob : (h'.push { cls := .type "list", data := .seq acc.toList.toArray }).get? h'.objs.size = some (seqObj "list" acc.toList.toArray 0) := Heap.get?_push_size _ rfl
  have e3 := each_fresh (h2 := h'.push { cls := .type "list", data := .seq acc.toList.toArray }) (fun b o e => Heap.get?_push_of_some _ e) hBn e2
  refine wpAny_bind (wpAny_holding (wpAny_mono (Q := fun _ s' => ∃ x H'', Inv X pins σ H'' s' ∧ RelV x (.ref h'.objs.size) ∧ Q x H'') (PySem.W.list_sort_data (bs := (kvs.map fun p => V.ref p.2.1).zip ds) (enc := fun b => b.2) hob e1 e3 (by rw [hm2]; exact ok.al) (by rw [hm2]; exact ok.so) (by rw [hlz]; exact Nat.le_trans ok.len (by decide)) (fun b hb => ?_) fun out lo eo => ?_) (fun _ s' x => wpAny_pure ⟨_, rfl, x⟩) fun _ _ e => e))
  · have := ok.dep _ (hmem b hb)
    show X.A.in1.units + 1 + b.2.depth < cLine
    show X.A.units + 1 + 1 + b.2.depth < cLine
    omega
  · obtain ⟨ep2, he'⟩ := sortedHeap_at (out := out.toArray) hob
    have hp := List.mergeSort_perm ((kvs.map fun p => V.ref p.2.1).zip ds) (PySem.W.dataLe false fun b => b.2)
    have hlen : ((((kvs.map fun p => V.ref p.2.1).zip ds).mergeSort (PySem.W.dataLe false fun b => b.2)).map (·.1)).length ≤ sizeLine := by
      rw [List.length_map, hp.length_eq, hlz]; exact Nat.le_trans ok.len (by decide)
    have keep : ∀ b o, h'.get? b = some o → (sortedHeap (h'.push { cls := .type "list", data := .seq acc.toList.toArray }) h'.objs.size acc.toList out.toArray).get? b = some o := fun b o e => by
      have hlt := Heap.lt_size e
      rw [sortedHeap_old (Nat.ne_of_lt hlt) (by rw [PyProof.Rows.size_push']; exact Nat.lt_succ_of_lt hlt)]
      exact Heap.get?_push_of_some _ e
    refine ⟨.ref _, upd H h'.objs.size (.lst _), J.laid (t' := tk) keep (Nat.le_refl _) ⟨hlen, out, ep2, each_vals eo, he'⟩, rfl, q _ _ hp ?_ (J.hok.fresh (Nat.le_refl _))⟩
    refine (List.map_mergeSort (f := fun b : V × PyData => b.2) (r := PySem.W.dataLe false fun b => b.2) (s := PySem.W.dataLe false id) (fun a _ b _ => rfl)).trans ?_
    rw [hm2]; rfl
theorem uSortN (hc : X.calm = true) (hu : X.A.units + 64 < cLine) (hP : X.prog = P := by rfl) (hw : X.w = w := by rfl) (hK : X.K = K := by rfl) : CallR X (.builtin "sorted") (rSortN P w K) := by subst hP hw hK; exact cr_sortN hc hu
end
end DW
namespace DW
open PySem PySem.Spec PyProof.Rows L2
section
variable {P : Program} {w : World} {g : Gd} {G : List Sl} {kd : KD} {j : Nat}
theorem nd_keysD {K : PySem.W.Frag} {F : Hp} : ∀ {kvs : List NE} {kd : KD}, Nd K F kvs kd → DpAll K F (kvs.map fun p => V.ref p.2.1) (kd.map (·.1))
  | _, _, .nil => .nil
  | _ :: _, _ :: _, .cons h t => .cons h.a (nd_keysD t)
/-- sorted(d) -/
theorem el_sortN (h : G[j]? = some (.ob (ndC P w g.K kd))) (ok : SoOk (kd.map (·.1))) : EL g (tCB (rSortN P w g.K) (tCons (tVar j) tNil)) G (sortA (kd.map (·.1))) := fun σ F H hh Q q => by
  obtain ⟨D, kvs, eo, _, _, hH, nd⟩ := nd_own hh h
  have hd := nd_keysD nd
  refine ⟨.ref D, eo, D, kvs, kd.map (·.1), rfl, hH, fun p hp => (nd.keys p hp).mono hh.st.i.ex, hh.st.i.ex.dps _ _ hd, ok, fun zs p pm e hp => ?_⟩
  have hz := dps_of_zip (K := g.K) (F := F) (zs := zs) fun z hz => zip_dp hd z (pm.mem_iff.mp hz)
  rw [e] at hz
  exact q p _ F _ (Stp.mine hh.st.i hp) hp (hh.st.i.free hp) upd_same hz
end
end DW

/-! expressions that change one own slot: d.setdefault(k, v) inside a test, a tuple, a comprehension -/
namespace DW
open PySem PySem.Spec PyProof.Rows L2
structure Stq (σ : L2.St) (i : Nat) (F H F' H' : Hp) : Prop where
  f : Ex F F'
  fr : ∀ a o, H a = some o → (∀ ps, o ≠ .tbl ps) → σ[i]? ≠ some (some (V.ref a)) → H' a = some o
  s : ∀ a o, H a = some o → ∃ o', H' a = some o'
  n : ∀ a o, H a = some o → F a = none → F' a = none
section
variable {σ : L2.St} {i : Nat} {F H F1 H1 F2 H2 : Hp}
theorem Stp.q (s : Stp F H F1 H1) : Stq σ i F H F1 H1 := ⟨s.f, fun a o e n _ => s.h a o e n, s.s, s.n⟩
theorem Stq.trans (a : Stq σ i F H F1 H1) (b : Stq σ i F1 H1 F2 H2) : Stq σ i F H F2 H2 :=
  ⟨a.f.trans b.f, fun x o e n q => b.fr x o (a.fr x o e n q) n q, fun x o e => let ⟨o', e'⟩ := a.s x o e; b.s x o' e', fun x o e n => let ⟨o', e'⟩ := a.s x o e; b.n x o' e' (a.n x o e n)⟩
theorem Stq.old_free (s : Stq σ i F H F1 H1) {p : Addr} (h : H1 p = none) : H p = none := by
  cases z : H p with
  | none => rfl
  | some o => obtain ⟨o', e⟩ := s.s p o z; rw [h] at e; cases e
end
/-- te gives d for good and turns slot i into s' -/
def EG (g : Gd) (i : Nat) (te : TE) (G : List Sl) (s' : Sl) (d : PyData) : Prop := ∀ σ F H, Holds g G σ F H → ∀ Q : VK, (∀ v F' H', Stq σ i F H F' H' → Holds g (G.set i s') σ F' H' → Dp g.K F' v d → Q v H') → te σ H Q
def TGi (g : Gd) (i : Nat) (tt : TT) (G : List Sl) (s' : Sl) (b : Bool) : Prop := ∀ σ F H, Holds g G σ F H → ∀ Q : Bool → Hp → Prop, (∀ F' H', Stq σ i F H F' H' → Holds g (G.set i s') σ F' H' → Q b H') → tt σ H Q
def AG (g : Gd) (i : Nat) (ta : TA) (G : List Sl) (s' : Sl) (ds : List PyData) : Prop := ∀ σ F H, Holds g G σ F H → ∀ Q : List V → Hp → Prop, (∀ vs F' H', Stq σ i F H F' H' → Holds g (G.set i s') σ F' H' → DpAll g.K F' vs ds → Q vs H') → ta σ H Q
def setN (kd : KD) (k d : PyData) : KD := if hasN kd k = true then kd else putN kd k d
section
variable {P : Program} {w : World} {g : Gd} {G : List Sl} {te tk tv ta tb : TE} {tt : TT} {tu tw : TS} {d x y k : PyData} {ds : List PyData} {kd : KD} {i j : Nat} {D : Ends} {s' : Sl} {b : Bool}
theorem set_at {G : List Sl} {i : Nat} {s : Sl} (h : G[i]? = some s) : G.set i s = G := List.ext_getElem? fun j => by
  have hi : i < G.length := (List.getElem?_eq_some_iff.mp h).1
  by_cases hj : i = j
  · subst hj; rw [List.getElem?_set_self hi, h]
  · rw [List.getElem?_set_ne hj]
theorem eg_setd (h : G[i]? = some (.ob (ndC P w g.K kd))) (hk : E g tk G k) (ky : kyD k = true) (dk : (nk k).depth ≤ 8) (ht : ∃ l, k = .tuple l) (hv : E g tv G d) (hz : kd.length < 100000) :
    EG g i (tDSetdN P w g.K (tVar i) tk tv) G (.ob (ndC P w g.K (setN kd k d))) ((getN kd k).getD d) := fun σ F H hh Q q => by
  obtain ⟨D, kvs0, eo, _, _, hH0, nd0⟩ := nd_own hh h
  refine ⟨.ref D, eo, D, kvs0, rfl, hH0, fun p hp => (nd0.keys p hp).mono hh.st.i.ex, hk σ F H hh _ fun u F1 H1 s1 d1 => hv σ F1 H1 (hh.mono s1) _ fun z F2 H2 s2 d2 => ?_⟩
  have hh2 := (hh.mono s1).mono s2
  have st := s1.trans s2
  obtain ⟨D', kvs, eo', h0, hF, hH, nd⟩ := nd_own hh2 h
  obtain rfl : D' = D := by rw [eo] at eo'; cases eo'; rfl
  obtain ⟨a, rfl⟩ := tup_ref ht d1
  refine ⟨a, kvs, nk k, rfl, hH, fun p hp => (nd.keys p hp).mono hh2.st.i.ex, ⟨k, ky, rfl, dk, s2.i.ex.dp _ _ (s2.f.dp _ _ d1)⟩, Nat.lt_of_lt_of_le (by rw [nd.len]; exact hz) (by decide), fun b v e => ?_, fun e => ?_⟩
  · rcases nd.at_ k with ⟨e1, _⟩ | ⟨b', u', d', e1, e2, e3, dd⟩
    · rw [e] at e1; cases e1
    · rw [e] at e1; cases e1
      have es : setN kd k d = kd := if_pos e3
      refine q v F2 H2 st.q ?_ (by rw [e2]; exact dd)
      rw [es, set_at h]; exact hh2
  · rcases nd.at_ k with ⟨e1, e2, e3⟩ | ⟨b', u', d', e1, e2, e3, dd⟩
    · have es : setN kd k d = putN kd k d := if_neg (by rw [e3]; decide)
      refine q z F2 _ ⟨st.f, fun b o e4 n q4 => ?_, fun b o e4 => ?_, st.n⟩ ?_ (by rw [e2]; exact d2)
      · rw [upd_ne (fun z => q4 (by rw [z]; exact eo))]; exact st.h b o e4 n
      · by_cases hb : b = D'
        · subst hb; exact ⟨_, upd_same⟩
        · rw [upd_ne hb]; exact st.s b o e4
      · rw [es]
        exact hh2.obMut h eo' h0 hF hH ndO_nt ndO_nt fun F3 e5 => ⟨_, rfl, (nd.put ⟨rfl, ky, dk, s2.f.dp _ _ d1, d2⟩).mono e5⟩
    · rw [e] at e1; cases e1
theorem eg_op {r : R2} (ha : EG g i ta G s' x) (hb : E g tb (G.set i s') y) (hr : RB g r x y d) (hs : scalD d = true) : EG g i (tOp r ta tb) G s' d := fun σ F H hh Q q =>
  ha σ F H hh _ fun u F1 H1 s1 hh1 d1 => hb σ F1 H1 hh1 _ fun v F2 H2 s2 d2 => hr u v H2 (s2.i.ex.dp x u (s2.f.dp x u d1)) (s2.i.ex.dp y v d2) Q fun z d3 => q z F2 H2 (s1.trans s2.q) (hh1.mono s2) (dp_scal hs d3)
theorem tg_test (h : EG g i te G s' (.bool b)) : TGi g i (tTest te) G s' b := fun σ F H hh Q q => h σ F H hh _ fun v F1 H1 s1 hh1 d1 => by cases d1; exact ⟨b, rfl, q F1 H1 s1 hh1⟩
theorem tg_B (h : EG g i te G s' (.bool b)) : TGi g i (tB te) G s' b := fun σ F H hh Q q => h σ F H hh _ fun v F1 H1 s1 hh1 d1 => by cases d1; exact ⟨b, rfl, q F1 H1 s1 hh1⟩
theorem s_ifG (h : TGi g i tt G s' b) (h1 : b = true → S g tu D (G.set i s')) (h2 : b = false → S g tw D (G.set i s')) : S g (tIfS tt tu tw) D G := fun σ F H hh => h σ F H hh _ fun F1 H1 s1 hh1 => by
  cases b with
  | true => exact h1 rfl σ F1 H1 hh1
  | false => exact h2 rfl σ F1 H1 hh1
theorem q_ifG {t1 t2 : TS} (h : TGi g i tt G s' b) (h1 : b = true → S g t1 { D with nx := tw D } (G.set i s')) (h2 : b = false → S g t2 { D with nx := tw D } (G.set i s')) : S g (tSeq (tIfS tt t1 t2) tw) D G := s_ifG (D := { D with nx := tw D }) h h1 h2
theorem ag_cons {tr : TA} (h : E g te G d) (hr : AG g i tr G s' ds) : AG g i (tCons te tr) G s' (d :: ds) := fun σ F H hh Q q =>
  h σ F H hh _ fun v F1 H1 s1 d1 => hr σ F1 H1 (hh.mono s1) _ fun vs F2 H2 s2 hh2 d2 => q (v :: vs) F2 H2 (s1.q.trans s2) hh2 (.cons (s2.f.dp d v d1) d2)
theorem ag_last {tr : TA} (h : EG g i te G s' d) (hr : A g tr (G.set i s') ds) : AG g i (tCons te tr) G s' (d :: ds) := fun σ F H hh Q q =>
  h σ F H hh _ fun v F1 H1 s1 hh1 d1 => hr σ F1 H1 hh1 _ fun vs F2 H2 s2 d2 => q (v :: vs) F2 H2 (s1.trans s2.q) (hh1.mono s2) (.cons (s2.f.dp d v d1) d2)
theorem eg_tup {ta : TA} (h : AG g i ta G s' ds) (hl : ds.length ≤ 100000) : EG g i (tTup ta) G s' (.tuple ds) := fun σ F H hh Q q => h σ F H hh _ fun vs F1 H1 s1 hh1 d1 =>
  ⟨by rw [dps_len d1]; exact Nat.le_trans hl (by decide), fun p hp => by
    have st := Stp.new (o := .tup vs) hh1.st.i hp fun _ z => by cases z
    exact q (.ref p) _ _ (s1.trans st.q) (hh1.mono st) (.tup (.inl (.inl upd_same)) (st.f.dps ds vs d1))⟩
/-- x = te -/
theorem q_asgG (h : EG g i te G s' d) (k : S g tw D ((G.set i s').set j (.fz d))) : S g (tSeq (tAsg te (gName j)) tw) D G := fun σ F H hh => h σ F H hh _ fun v F1 H1 s1 hh1 d1 => k _ F1 H1 (hh1.setF d1)
/-- a new list that no slot holds stays for good -/
theorem Holds.frzNew {σ : L2.St} {F H : Hp} {p : Addr} {vs : List V} (hh : Holds g G σ F H) (h0 : g.H0 p = none) (hF : F p = none) (hH : H p = some (.lst vs)) (new : ∀ (j : Nat) (t : Sl), G[j]? = some t → t.mine = true → σ[j]? ≠ some (some (.ref p))) : Holds g G σ (upd F p (.lst vs)) H := by
  have ex : Ex F (upd F p (.lst vs)) := fun a u q _ => by rw [upd_ne (ne_of_none q hF)]; exact q
  refine ⟨hh.len, ⟨hh.st.f.trans ex, ⟨fun a u q n => ?_, fun a ps q => ?_⟩, hh.st.h, hh.st.s, hh.st.t, fun a u q n => ?_⟩, fun j s o e1 e2 => ?_, hh.apart, hh.tab, hh.lo.trans ex⟩
  · by_cases ha : a = p
    · subst ha; rw [upd_same] at q; cases q; exact hH
    · rw [upd_ne ha] at q; exact hh.st.i.ex a u q n
  · by_cases ha : a = p
    · subst ha; rw [upd_same] at q; cases q
    · rw [upd_ne ha] at q; exact hh.st.i.nt a ps q
  · rw [upd_ne (ne_of_none q h0)]; exact hh.st.n a u q n
  · have q := hh.sl j s o e1 e2
    cases s with
    | un => trivial
    | fz d => obtain ⟨v, ev, hv⟩ := q; exact ⟨v, ev, ex.dp d v hv⟩
    | raw v => exact q
    | ow es =>
      obtain ⟨r, ws, er, q0, qF, qH, qd⟩ := q
      subst er
      refine ⟨r, ws, rfl, q0, ?_, qH, ex.dps es ws qd⟩
      rw [upd_ne (fun z => new j _ e1 rfl (by rw [e2, z]))]; exact qF
    | od es =>
      obtain ⟨r, ws, er, q0, qF, qH, qd⟩ := q
      subst er
      refine ⟨r, ws, rfl, q0, ?_, qH, qd.mono ex⟩
      rw [upd_ne (fun z => new j _ e1 rfl (by rw [e2, z]))]; exact qF
    | fk es =>
      obtain ⟨r, ws, er, hr, qd⟩ := q
      exact ⟨r, ws, er, ex.rd hr (fun _ z => by cases z), qd.mono ex⟩
    | ob C =>
      obtain ⟨r, u, er, q0, qF, qH, qn, qC⟩ := q
      subst er
      refine ⟨r, u, rfl, q0, ?_, qH, qn, fun F2 e2 => qC F2 (ex.trans e2)⟩
      rw [upd_ne (fun z => new j _ e1 rfl (by rw [e2, z]))]; exact qF
/-- all slots but i are as they were -/
theorem Holds.glue {σ : L2.St} {F H F' H' : Hp} {s0 : Sl} (hh : Holds g G σ F H) (e0 : G[i]? = some s0) (m0 : s0.mine = true) (st : Stq σ i F H F' H') (hs : ∀ o, σ[i]? = some o → SlOk g.K g.H0 F' H' o s') (ok : Stp g.F0 g.H0 F' H') (tb : ∀ P ∈ g.T, GxR.TabG H' P) : Holds g (G.set i s') σ F' H' := by
  have hi : i < G.length := (List.getElem?_eq_some_iff.mp e0).1
  refine ⟨by rw [List.length_set]; exact hh.len, ok, fun j s o e1 e2 => ?_, fun j k s t p e1 e2 m1 m2 e3 e4 => ?_, tb, hh.lo.trans st.f⟩
  · by_cases hj : i = j
    · subst hj; rw [List.getElem?_set_self hi] at e1; cases e1; exact hs o e2
    · rw [List.getElem?_set_ne hj] at e1
      have q := hh.sl j s o e1 e2
      have other : ∀ p, o = some (V.ref p) → s.mine = true → σ[i]? ≠ some (some (V.ref p)) := fun p eo m z => hj (hh.apart i j s0 s p e0 e1 m0 m z (by rw [e2, eo]))
      cases s with
      | un => trivial
      | fz d => obtain ⟨v, ev, hv⟩ := q; exact ⟨v, ev, st.f.dp d v hv⟩
      | raw v => exact q
      | ow es =>
        obtain ⟨r, ws, er, q0, qF, qH, qd⟩ := q
        exact ⟨r, ws, er, q0, st.n r _ qH qF, st.fr r _ qH (fun _ z => by cases z) (other r er rfl), st.f.dps es ws qd⟩
      | od es =>
        obtain ⟨r, ws, er, q0, qF, qH, qd⟩ := q
        exact ⟨r, ws, er, q0, st.n r _ qH qF, st.fr r _ qH (fun _ z => by cases z) (other r er rfl), qd.mono st.f⟩
      | fk es =>
        obtain ⟨r, ws, er, hr, qd⟩ := q
        exact ⟨r, ws, er, st.f.rd hr (fun _ z => by cases z), qd.mono st.f⟩
      | ob C =>
        obtain ⟨r, u, er, q0, qF, qH, qn, qC⟩ := q
        exact ⟨r, u, er, q0, st.n r _ qH qF, st.fr r _ qH qn (other r er rfl), qn, fun F2 e2 => qC F2 (st.f.trans e2)⟩
  · have back : ∀ (j : Nat) (s : Sl), (G.set i s')[j]? = some s → s.mine = true → ∃ s1, G[j]? = some s1 ∧ s1.mine = true := fun j s e m => by
      by_cases hj : i = j
      · subst hj; exact ⟨s0, e0, m0⟩
      · rw [List.getElem?_set_ne hj] at e; exact ⟨s, e, m⟩
    obtain ⟨s1, f1, n1⟩ := back j s e1 m1
    obtain ⟨s2, f2, n2⟩ := back k t e2 m2
    exact hh.apart j k s1 s2 p f1 f2 n1 n2 e3 e4
theorem wipe_off {σ : L2.St} : ∀ {vs : List Nat}, i ∉ vs → (wipe σ vs)[i]? = σ[i]?
  | [], _ => rfl
  | v :: vs, hn => by
    show ((wipe σ vs).set v none)[i]? = _
    rw [List.getElem?_set_ne (fun z => hn (by rw [z]; exact List.mem_cons_self))]
    exact wipe_off fun z => hn (List.mem_cons_of_mem _ z)
/-- [te for .. in ..], te changing slot i -/
theorem eg_lc {tg : TG} {wi : TI} {vs ix : List Nat} (st : Nat → Sl) (out : Nat → PyData) (G1 : Nat → List Sl) (h0 : G[i]? = some (st 0)) (hm : ∀ n, (st n).mine = true) (it : IT g wi G ds) (hz : ds.length ≤ 40000) (hiv : i ∉ vs)
    (tgt : ∀ F1 n d, ds[n]? = some d → Tg { g with Fl := F1 } tg d (wipeG (G.set i (st n)) vs) (G1 n) ix) (hix : ∀ j ∈ ix, j ∈ vs) (hl : ∀ n, (G1 n)[i]? = some (st n))
    (he : ∀ F1 n d, ds[n]? = some d → EG { g with Fl := F1 } i te (G1 n) (st (n + 1)) (out n)) : EG g i (tLc wi tg tYes te vs) G (st ds.length) (.list ((List.range ds.length).map out)) := fun σ F H hh Q q => it σ F H hh _ fun J F1 H1 s1 W Dl hD => by
  have hh1 := hh.mono s1
  have hD0 : g.H0 Dl = none := old_free hh1.st hD
  have nw := new_ok hh1 hD
  have hi : i < G.length := (List.getElem?_eq_some_iff.mp h0).1
  have nwn : ∀ n (j : Nat) (t : Sl), (G.set i (st n))[j]? = some t → t.mine = true → σ[j]? ≠ some (some (V.ref Dl)) := fun n j t e m => by
    by_cases hj : i = j
    · subst hj; exact nw i ⟨_, h0, hm 0⟩
    · rw [List.getElem?_set_ne hj] at e; exact nw j ⟨t, e, m⟩
  have ni : σ[i]? ≠ some (some (V.ref Dl)) := nw i ⟨_, h0, hm 0⟩
  let Pv : Nat → Hp → Prop := fun n H' => ∃ F' ws, Stq σ i F1 H1 F' H' ∧ Holds g (G.set i (st n)) σ F' H' ∧ F' Dl = none ∧ H' Dl = some (.lst ws) ∧ DpAll g.K F' ws ((List.range n).map out)
  refine ⟨fun n m H' => m = ds.length - n ∧ n ≤ ds.length ∧ Pv n H', ⟨ds.length, by simp, Nat.zero_le _, F1, [], (Stp.mine s1.i hD).q, by rw [set_at h0]; exact hh1.mono (Stp.mine s1.i hD), s1.i.free hD, upd_same, .nil⟩, ?_⟩
  rintro n m H2 ⟨rfl, hn, F2, ws, s2, hh2, hF2, hH2, hd2⟩
  have lw : ws.length = n := by rw [dps_len hd2, List.length_map, List.length_range]
  by_cases hlt : n < ds.length
  · have hget := List.getElem?_eq_getElem hlt
    refine .inr ⟨W.go n F2 H2 s2.f hh2.st.i hlt, Pv (n + 1), fun H' p' => ⟨ds.length - (n + 1), by omega, rfl, hlt, p'⟩, fun x H3 y => ?_⟩
    obtain ⟨F3, s3, d3⟩ := W.yld n F2 H2 x H3 ds[n] s2.f hh2.st.i hget y
    have hh3 := hh2.mono s3
    have hw := Holds.wipe hh3 vs
    refine tgt F1 n ds[n] hget x (wipe σ vs) F3 H3 ⟨hw.len, hw.st, hw.sl, hw.apart, hw.tab, s2.f.trans s3.f⟩ d3 _ fun σ3 hh3' w3 => ?_
    have w3' : wipe σ3 vs = wipe σ vs := by
      rw [w3 vs hix]
      have ww : ∀ (l : List Nat), (∀ j ∈ l, j ∈ vs) → wipe (wipe σ l) vs = wipe σ vs := by
        intro l
        induction l with
        | nil => intro _; rfl
        | cons v l ih => intro hl; show wipe ((wipe σ l).set v none) vs = _; rw [wipe_set (hl v List.mem_cons_self)]; exact ih fun j hj => hl j (List.mem_cons_of_mem _ hj)
      exact ww vs fun _ h => h
    have si : σ3[i]? = σ[i]? := by rw [← wipe_off (σ := σ3) hiv, w3', wipe_off hiv]
    refine ⟨w3', ?_⟩
    show te σ3 H3 _
    refine he F1 n ds[n] hget σ3 F3 H3 hh3' _ fun v F4 H4 s4 hh4 d4 => ?_
    have s4' : Stq σ i F3 H3 F4 H4 := ⟨s4.f, fun a o e n q => s4.fr a o e n (by rw [si]; exact q), s4.s, s4.n⟩
    have out4 : Holds g (G.set i (st (n + 1))) σ F4 H4 := by
      have := hh3.glue (i := i) (s' := st (n + 1)) (by rw [List.getElem?_set_self hi]) (hm n) s4' (fun o e => hh4.sl i (st (n + 1)) o (by rw [List.getElem?_set_self (List.getElem?_eq_some_iff.mp (hl n)).1]) (by rw [si]; exact e)) hh4.st hh4.tab
      rw [List.set_set] at this
      exact this
    have sA := s2.trans (s3.q.trans s4')
    have hF4 : F4 Dl = none := (s3.q.trans s4').n Dl _ hH2 hF2
    have hH4 : H4 Dl = some (.lst ws) := (s3.q.trans s4').fr Dl _ hH2 (fun _ z => by cases z) ni
    refine ⟨ws, hH4, Nat.lt_of_le_of_lt (by rw [lw]; exact Nat.le_trans hn hz) (by decide), F4, ws ++ [v], ⟨sA.f, fun a o e n q => ?_, fun a o e => ?_, sA.n⟩, out4.mut hD0 hF4 hH4 (fun _ z => by cases z) (nwn (n + 1)), hF4, upd_same, ?_⟩
    · rw [upd_ne (ne_of_none e hD)]; exact sA.fr a o e n q
    · rw [upd_ne (ne_of_none e hD)]; exact sA.s a o e
    · rw [List.range_succ, List.map_append]
      exact dps_app ((s3.q (σ := σ) (i := i)).trans s4' |>.f.dps _ ws hd2) (.cons d4 .nil)
  · have e : n = ds.length := by omega
    subst e
    refine .inl ⟨W.stop F2 H2 s2.f hh2.st.i, ?_⟩
    have e : Ex F2 (upd F2 Dl (.lst ws)) := fun a u q _ => by rw [upd_ne (ne_of_none q hF2)]; exact q
    have sA : Stq σ i F H F2 H2 := s1.q.trans s2
    refine q (.ref Dl) (upd F2 Dl (.lst ws)) H2 ⟨sA.f.trans e, sA.fr, sA.s, fun a o e1 n => ?_⟩ (hh2.frzNew hD0 hF2 hH2 (nwn _)) (.lst (.inl (.inl upd_same)) (e.dps _ ws hd2))
    obtain ⟨o', e2⟩ := s1.s a o e1
    rw [upd_ne (ne_of_none e2 hD)]; exact sA.n a o e1 n
end
end DW

/-! xs[::-1] -/
namespace DW
open PySem PySem.Spec PyProof.Rows L2
theorem dps_rev {K : PySem.W.Frag} {F : Hp} : ∀ {vs : List V} {ds : List PyData}, DpAll K F vs ds → DpAll K F vs.reverse ds.reverse
  | _, _, .nil => .nil
  | _, _, .cons a t => by rw [List.reverse_cons, List.reverse_cons]; exact dps_app (dps_rev t) (.cons a .nil)
theorem el_rev {g : Gd} {G : List Sl} {te : TE} {ds : List PyData} (h : E g te G (.list ds)) : EL g (tRevL g.K te) G ds.reverse := fun σ F H hh Q q => h σ F H hh _ fun v F1 H1 s1 d1 => by
  obtain ⟨a, vs, rfl, h1, h2⟩ := dp_sq d1
  exact ⟨a, vs, rfl, s1.i.ex.l h1, fun p hp => q p _ F1 _ (s1.trans (Stp.mine s1.i hp)) (old_free s1 hp) (s1.i.free hp) upd_same (dps_rev h2)⟩
theorem pe_revLK {X : Cx} (K : PySem.W.Frag) {e : Expr} {te : TE} {k : Nat} {p1 p2 p3 pos : Pos} (he : PE X e te) (h : X.K = K := by rfl) : PE X (.Subscript e (.Slice none none (some (.UnaryOp .USub (.Constant (.int 1) k p1) p2)) p3) pos) (tRevL K te) := h ▸ pe_revL he
end DW

/-! {text: v for ..} as an own dict, list(d) of a dict by text keys -/
namespace DW
open PySem PySem.Spec PyProof.Rows L2
def rListDk : List V → Hp → VK → Prop := fun xs H Q => ∃ d kvs, xs = [V.ref d] ∧ H d = some (.dK kvs) ∧ ∀ p, H p = none → Q (.ref p) (upd H p (.lst (kvs.map fun p => kV p.1)))
theorem kv_keysV : ∀ {kvs : List (Key × V)} {vs : List (Key × Value)}, KV kvs vs → ∀ {us : List Value}, us.length = vs.length → (∀ (j : Nat) (v : Value), us[j]? = some v → ∃ k x, vs[j]? = some (k, x) ∧ keyIs k v = true) → Vals (kvs.map fun p => kV p.1) us
  | _, _, .nil, [], _, _ => .nil
  | _, _, .nil, _ :: _, h, _ => by cases h
  | _, _, .cons _ _, [], h, _ => by cases h
  | p :: kvs, q :: vs, .cons h t, u :: us, hl, hu => by
    rw [List.map_cons]
    obtain ⟨k, x, e1, e2⟩ := hu 0 u rfl
    have e1 : q = (k, x) := Option.some.inj e1
    refine .cons ?_ (kv_keysV t (Nat.succ.inj hl) fun j v e => ?_)
    · rw [show p.1 = k by rw [h.1, e1]]
      exact relV_key e2
    · obtain ⟨k, x, f1, f2⟩ := hu (j + 1) v (by simpa using e)
      exact ⟨k, x, by simpa using f1, f2⟩
theorem cr_listDk {X : Cx} (hc : X.calm = true) : CallR X (.type "list") rListDk := by
  intro pins s σ H xs us Q I r h
  obtain ⟨d, kvs, rfl, hd, q⟩ := h
  obtain ⟨u, rfl, rx⟩ := r.one
  cases rx
  obtain ⟨hz, hs0, vs, kv, hdo⟩ := I.hok d _ hd
  obtain ⟨ep, hat⟩ := hdo.dictAt
  have lk : kvs.length = vs.length := Paired.length kv
  refine PySem.W.kdl_call (PySem.W.kdl_dict (knd := mixKind X.prog X.w) (kvs := vs) (ep := ep) hs0) (I.ok.hd hc) hat (by omega) fun h' tk acc' c' kp e it => ?_
  have hl : acc'.toList.length = vs.length := by rw [Array.length_toList, it.1]
  have vr : Vals (kvs.map fun p => kV p.1) acc'.toList := kv_keysV kv hl fun j v e1 => it.2 j v (by rw [← Array.getElem?_toList]; exact e1)
  refine ⟨.ref _, upd H s.heap.objs.size (.lst (kvs.map fun p => kV p.1)), I.laid (t' := tk) kp (Nat.le_refl _) ?_, rfl, q _ (I.hok.fresh (Nat.le_refl _))⟩
  exact ⟨by rw [List.length_map]; omega, acc'.toList, c', vr, by rw [e]⟩
theorem uListDk {X : Cx} (hc : X.calm = true) : CallR X (.type "list") rListDk := cr_listDk hc
def EOD (g : Gd) (te : TE) (G : List Sl) (kvs : List (Str × PyData)) : Prop := ∀ σ F H, Holds g G σ F H → ∀ Q : VK, (∀ D vs F' H', Stp F H F' H' → H D = none → F' D = none → H' D = some (.dK vs) → KvOk g.K F' vs kvs → Q (.ref D) H') → te σ H Q
def dcTs (f : PyData → Option (Str × PyData)) (kvs : List (Str × PyData)) (x : PyData) : List (Str × PyData) := match f x with
  | none => kvs
  | some p => putD kvs p.1 p.2
def dcT (f : PyData → Option (Str × PyData)) (ds : List PyData) : List (Str × PyData) := ds.foldl (dcTs f) []
theorem dcT_take {f : PyData → Option (Str × PyData)} {ds : List PyData} {i : Nat} {x : PyData} (h : ds[i]? = some x) : dcT f (ds.take (i + 1)) = match f x with | none => dcT f (ds.take i) | some p => putD (dcT f (ds.take i)) p.1 p.2 := by
  unfold dcT
  rw [List.take_add_one, h, List.foldl_append]; rfl
theorem putD_len (kvs : List (Str × PyData)) (k : Str) (d : PyData) : (putD kvs k d).length ≤ kvs.length + 1 := by
  unfold putD
  split
  · rw [List.length_map]; omega
  · rw [List.length_append]; exact Nat.le_refl _
theorem dcT_len (f : PyData → Option (Str × PyData)) (ds : List PyData) : ∀ i, (dcT f (ds.take i)).length ≤ i
  | 0 => Nat.le_refl _
  | i + 1 => by
    have ih := dcT_len f ds i
    cases h : ds[i]? with
    | none =>
      have : ds.take (i + 1) = ds.take i := by rw [List.take_add_one, h]; exact List.append_nil _
      rw [this]; omega
    | some x =>
      rw [dcT_take h]
      cases f x with
      | none => exact Nat.le_succ_of_le ih
      | some p => have := putD_len (dcT f (ds.take i)) p.1 p.2; show (putD _ _ _).length ≤ _; omega
section
variable {g : Gd} {G : List Sl} {te tk tv : TE} {tt : TT} {tg : TG} {ds : List PyData} {ix : List Nat} {kvs : List (Str × PyData)}
theorem eod_dc {wi : TI} {vs : List Nat} (f : PyData → Option (Str × PyData)) (G1 : PyData → List Sl) (it : IT g wi G ds) (hz : ds.length ≤ 40000)
    (tgt : ∀ F1, ∀ d ∈ ds, Tg { g with Fl := F1 } tg d (wipeG G vs) (G1 d) ix) (hix : ∀ j ∈ ix, j ∈ vs)
    (ht : ∀ F1, ∀ d ∈ ds, T { g with Fl := F1 } tt (G1 d) (f d).isSome) (hk : ∀ F1, ∀ d ∈ ds, ∀ p, f d = some p → E { g with Fl := F1 } tk (G1 d) (.str p.1)) (hv : ∀ F1, ∀ d ∈ ds, ∀ p, f d = some p → E { g with Fl := F1 } tv (G1 d) p.2) :
    EOD g (tDc wi tg tt tk tv vs) G (dcT f ds) := fun σ F H hh Q q => it σ F H hh _ fun J F1 H1 s1 W Dl hD => by
  have hh1 := hh.mono s1
  have hw := Holds.wipe hh1 vs
  have hwl : Holds { g with Fl := F1 } (wipeG G vs) (wipe σ vs) F1 H1 := ⟨hw.len, hw.st, hw.sl, hw.apart, hw.tab, Ex.refl F1⟩
  have hD0 : g.H0 Dl = none := old_free hh1.st hD
  have nw := new_ok hwl hD
  let Pv : Nat → Hp → Prop := fun i H' => ∃ F' ws, Stp F1 H1 F' H' ∧ Holds { g with Fl := F1 } (wipeG G vs) (wipe σ vs) F' H' ∧ F' Dl = none ∧ H' Dl = some (.dK ws) ∧ KvOk g.K F' ws (dcT f (ds.take i))
  refine ⟨fun i m H' => m = ds.length - i ∧ i ≤ ds.length ∧ Pv i H', ⟨ds.length, by simp, Nat.zero_le _, F1, [], Stp.mine s1.i hD, hwl.mono (Stp.mine s1.i hD), s1.i.free hD, upd_same, kv_nil⟩, ?_⟩
  rintro i m H2 ⟨rfl, hi, F2, ws, s2, hh2, hF2, hH2, hd2⟩
  by_cases hlt : i < ds.length
  · have hget := List.getElem?_eq_getElem hlt
    have hmem : ds[i] ∈ ds := List.getElem_mem hlt
    refine .inr ⟨W.go i F2 H2 hh2.lo hh2.st.i hlt, Pv (i + 1), fun H' p' => ⟨ds.length - (i + 1), by omega, rfl, hlt, p'⟩, fun x H3 y => ?_⟩
    obtain ⟨F3, s3, d3⟩ := W.yld i F2 H2 x H3 ds[i] hh2.lo hh2.st.i hget y
    refine tgt F1 ds[i] hmem x (wipe σ vs) F3 H3 (hh2.mono s3) d3 _ fun σ3 hh3 w3 => ⟨?_, ?_⟩
    · rw [w3 vs hix]
      have ww : ∀ (l : List Nat), (∀ j ∈ l, j ∈ vs) → wipe (wipe σ l) vs = wipe σ vs := by
        intro l
        induction l with
        | nil => intro _; rfl
        | cons v l ih => intro hl; show wipe ((wipe σ l).set v none) vs = _; rw [wipe_set (hl v List.mem_cons_self)]; exact ih fun j hj => hl j (List.mem_cons_of_mem _ hj)
      exact ww vs fun _ h => h
    · refine ht F1 ds[i] hmem σ3 F3 H3 hh3 _ fun F4 H4 s4 => ?_
      have e := dcT_take (f := f) hget
      cases hf : f ds[i] with
      | none =>
        rw [hf] at e
        show Pv (i + 1) H4
        have ss := s3.trans s4
        refine ⟨F4, ws, s2.trans ss, hh2.mono ss, ss.n Dl _ hH2 hF2, ss.h.dk hH2, ?_⟩
        rw [e]
        exact hd2.mono ss.f
      | some p =>
        rw [hf] at e
        show tk σ3 H4 _
        refine hk F1 ds[i] hmem p hf σ3 F4 H4 (hh3.mono s4) _ fun u F5 H5 s5 d5 => hv F1 ds[i] hmem p hf σ3 F5 H5 ((hh3.mono s4).mono s5) _ fun z F6 H6 s6 d6 => ?_
        have ss := ((s3.trans s4).trans s5).trans s6
        have hF6 := ss.n Dl _ hH2 hF2
        have hH6 := ss.h.dk hH2
        cases d5
        have lz : ws.length < sizeLine := Nat.lt_of_le_of_lt (by rw [kv_len hd2]; exact dcT_len f ds i) (Nat.lt_of_le_of_lt (Nat.le_of_lt hlt) (Nat.lt_of_le_of_lt hz (by decide)))
        refine ⟨ws, Sum.inr p.1, rfl, hH6, lz, F6, _, (s2.trans ss).mut hD hF6 hH6 (fun _ z => by cases z), (hh2.mono ss).mut hD0 hF6 hH6 (fun _ z => by cases z) (fun j t e1 m e2 => nw j ⟨t, e1, m⟩ e2), hF6, upd_same, ?_⟩
        rw [e]
        exact kv_put (hd2.mono ss.f) d6
  · have e : i = ds.length := by omega
    subst e
    rw [List.take_length] at hd2
    exact .inl ⟨W.stop F2 H2 hh2.lo hh2.st.i, q Dl ws F2 H2 (s1.trans s2) (old_free s1 hD) hF2 hH2 hd2⟩
theorem kv_keysD {K : PySem.W.Frag} {F : Hp} : ∀ {vs : List (Key × V)} {kvs : List (Str × PyData)}, KvOk K F vs kvs → DpAll K F (vs.map fun p => kV p.1) (kvs.map fun p => .str p.1)
  | [], [], _ => .nil
  | [], _ :: _, h => by cases h.ks
  | _ :: _, [], h => by cases h.ks
  | u :: vs, p :: kvs, h => by
    obtain ⟨a, _, c⟩ := kv_cons h
    rw [List.map_cons, List.map_cons, a]
    exact .cons (.str _) (kv_keysD c)
/-- list(d) -/
theorem el_listDk (h : EOD g te G kvs) : EL g (tCB rListDk (tCons te tNil)) G (kvs.map fun p => .str p.1) := fun σ F H hh Q q => h σ F H hh _ fun D vs F1 H1 s1 h0 hF hH hd =>
  ⟨D, vs, rfl, hH, fun p hp => q p _ F1 _ (s1.trans (Stp.mine s1.i hp)) (old_free s1 hp) (s1.i.free hp) upd_same (kv_keysD hd)⟩
end
end DW
namespace DW
open PySem PySem.Spec PyProof.Rows L2
/-- text += text -/
def ipS : TIp := fun x y H Q => ∃ i j, x = .str i ∧ y = .str j ∧ i.length + j.length ≤ sizeLine ∧ Q (.str (i ++ j)) H
theorem ip_cat {X : Cx} : PIp X .Add ipS := fun pins s σ H x y v u Q I r1 r2 h => iop_add_str pins s σ H x y v u Q I r1 r2 h
theorem s_augS {g : Gd} {G : List Sl} {D : Ends} {te : TE} {i : Nat} {a b : Str} (hx : G[i]? = some (.fz (.str a))) (h : E g te G (.str b)) (hl : a.length + b.length ≤ 100000) (k : N g D.nx (G.set i (.fz (.str (a ++ b))))) : S g (tAug i te ipS) D G := fun σ F H hh => by
  obtain ⟨o, e, v, ev, hd⟩ := hh.at_ hx
  subst ev
  cases hd
  refine ⟨.str a, e, h σ F H hh _ fun w F1 H1 s1 d1 => ?_⟩
  cases d1
  exact ⟨a, b, rfl, rfl, Nat.le_trans hl (by decide), k _ F1 H1 ((hh.mono s1).setF (.str _))⟩
end DW

/-! xs.extend(a tuple); loops and comprehensions over a call that raises; try .. except C: without a name -/
namespace DW
open PySem PySem.Spec PyProof.Rows L2
def rExtT (K : PySem.W.Frag) : V → List V → Hp → VK → Prop := fun x vs H Q => ∃ l b xs zs, x = .ref l ∧ vs = [.ref b] ∧ H l = some (.lst xs) ∧ SqT K H b zs ∧ xs.length + zs.length ≤ sizeLine ∧ Q .non (upd H l (.lst (xs ++ zs)))
theorem meets_extT (l b : Addr) (items items2 : Array Value) (n n2 : Nat) (o : Obj) (hlong : ¬(!items.isEmpty && Builtin.List.listTooLong (items.size + items2.size)) = true) (h1 : items.size ≤ sizeLine) (h2 : items.size + items2.size ≤ sizeLine + 1) :
    Meets (Builtin.«list.extend» ⟨[.ref l, .ref b], []⟩) (fun _ R s => s.heap.get? l = some { cls := .type "list", dict := none, data := .seq items n, slots := #[] } ∧ s.heap.get? b = some o ∧ o.cls = .type "tuple" ∧ o.data = .seq items2 n2 ∧ R (.ok (.ret Value.none)) { s with heap := s.heap.update l (Obj.mapSeq fun x => x ++ items2), toks := s.toks }) :=
  .of_wp fun prog w A R s ⟨hl, ho, hc, hd, h⟩ => by
    have hz' : (items ++ items2).size ≤ sizeLine + 1 := by rw [Array.size_append]; exact h2
    show wpAny _ A.in1 (Builtin.List.listExtendWith (.ref l) (.ref b) .none) _ _ s
    unfold Builtin.List.listExtendWith
    refine wpAny_bind (wpAny_typeOf ⟨o, ho, hc⟩ ?_)
    have hh : (Builtin.List.listSameRef (.ref l) (.ref b) || Value.type "tuple" == Value.type "list" || Value.type "tuple" == Value.type "tuple") = true := by simp
    simp only [hh, if_true]
    refine wpAny_bind ?_
    unfold Builtin.List.listItems
    refine wpAny_bind (wpAny_seqItems ho hd (wpAny_pure ?_))
    refine wpAny_bind ?_
    refine wpAny_bind (wpAny_seqItems hl rfl (wpAny_pure ?_))
    rw [if_neg hlong]
    show wpAny _ A.in1 (updateSeq l (· ++ items2) >>= fun _ => ret .none) _ _ s
    refine wpAny_bind (wpAny_updateSeq hl rfl (hz := h1) (_hz' := hz') ?_)
    exact wpAny_pure ⟨_, rfl, h⟩
theorem mt_extT {X : Cx} : MtM X "list.extend" (rExtT X.K) := by
  intro pins s σ H x vs v us Q I rx rv h
  obtain ⟨l, b, xs, zs, rfl, rfl, hH, hB, hz, q⟩ := h
  cases rx
  obtain ⟨u, rfl, ru⟩ := rv.one
  cases ru
  obtain ⟨z, its, n, r, hl, e⟩ := I.lstM hH
  obtain ⟨its2, r2, ⟨o, ho, hc, n2, hd⟩, hl2⟩ := I.tuple hB
  have e1 := r.length
  have e2 := r2.length
  have hsz : its.toArray.size + its2.toArray.size ≤ sizeLine := by rw [List.size_toArray, List.size_toArray]; omega
  have hlong : ¬ (!its.toArray.isEmpty && Builtin.List.listTooLong (its.toArray.size + its2.toArray.size)) = true := by
    rw [notLongL hsz, Bool.and_false]
    exact Bool.false_ne_true
  refine call_meets F.slot_list_extend ⟨_, e, rfl⟩ F.entry_list_extend (F.args_list_extend_2 _ _)
    (meets_extT l b its.toArray its2.toArray n n2 o hlong (by rw [List.size_toArray]; omega) (by omega)) ⟨e, ho, hc, hd, ?_⟩
  refine ⟨.non, _, I.lset (its' := its ++ its2) hH e (by simp) (r.append r2) ?_, rfl, q⟩
  rw [List.length_append]
  omega
theorem mt_extTK {X : Cx} (K : PySem.W.Frag) (h : X.K = K := by rfl) : MtM X "list.extend" (rExtT K) := h ▸ mt_extT
section
variable {g : Gd} {G : List Sl} {te : TE} {ds es : List PyData} {i : Nat} {D : Ends} {tw : TS}
/-- our list at slot i grows by a frozen tuple -/
theorem s_extT (h : G[i]? = some (.ow ds)) (he : E g te G (.tuple es)) (hz : ds.length + es.length ≤ 100000) (k : N g D.nx (G.set i (.ow (ds ++ es)))) : S g (tDrop (tBM g.K "list" (rExtT g.K) (tVar i) (tCons te tNil))) D G := fun σ F H hh => by
  obtain ⟨o, e, p, vs, ev, h0, hF, hH, hd⟩ := hh.at_ h
  subst ev
  refine ⟨.ref p, e, .inl ⟨rfl, vs, .inl (.inl hH)⟩, he σ F H hh _ fun v F1 H1 s1 d1 => ?_⟩
  obtain ⟨b, ws, rfl, h1, h2⟩ := dp_tq d1
  have hH1 := s1.h.lst hH
  have hF1 := s1.n p _ hH hF
  refine ⟨p, b, vs, ws, rfl, rfl, hH1, s1.i.ex.t h1, Nat.le_trans (by rw [dps_len hd, dps_len h2]; exact hz) (by decide), ?_⟩
  have hi : i < σ.length := (List.getElem?_eq_some_iff.mp e).1
  have hs : σ.set i (some (.ref p)) = σ := by
    apply List.ext_getElem?
    intro j
    by_cases hj : i = j
    · subst hj; rw [List.getElem?_set_self hi, e]
    · rw [List.getElem?_set_ne hj]
  have base := hh.mono s1
  have h1' : Holds g (G.set i .un) σ F1 H1 := base.weak (by rw [List.length_set]) fun j s ej => by
    by_cases hj : i = j
    · subst hj; rw [List.getElem?_set_self (by rw [← hh.len]; exact hi)] at ej; cases ej; exact .inl rfl
    · rw [List.getElem?_set_ne hj] at ej; exact .inr ej
  have other : ∀ (j : Nat) (t : Sl), j ≠ i → G[j]? = some t → t.mine = true → σ[j]? ≠ some (some (.ref p)) := fun j t hj ej m z => hj (hh.apart j i t (.ow ds) p ej h m rfl z e)
  have h2' : Holds g (G.set i .un) σ F1 (upd H1 p (.lst (vs ++ ws))) := h1'.mut h0 hF1 hH1 (fun _ z => by cases z) fun j t ej m => by
    by_cases hj : i = j
    · subst hj; rw [List.getElem?_set_self (by rw [← hh.len]; exact hi)] at ej; cases ej; cases m
    · rw [List.getElem?_set_ne hj] at ej; exact other j t (Ne.symm hj) ej m
  have h3 := h2'.setO (i := i) (ds := ds ++ es) h0 hF1 upd_same (dps_app (s1.f.dps ds vs hd) h2) fun j hj ⟨t, ej, m⟩ => by
    rw [List.getElem?_set_ne (Ne.symm hj)] at ej; exact other j t hj ej m
  rw [List.set_set, hs] at h3
  exact k σ F1 _ h3
/-! what raises -/
variable {W : L2.St → Hp → Prop} {tg : TG} {tt : TT} {tel : TE} {vs : List Nat} {tb : TS}
theorem xn_lc (h : XE1 g te G W) : XE1 g (tLc (iAny g.K te) tg tt tel vs) G W := fun σ F H hh k Q => .inl (.inl (h σ F H hh k _))
theorem xs_ret (h : XE1 g te G W) (k : ∀ σ F H, Holds g G σ F H → W σ H) : S g (tRet te) D G := fun σ F H hh => h σ F H hh (fun F' H' s => k σ F' H' (hh.mono s)) _
theorem xs_for (h : XE1 g te G W) (k : ∀ σ F H, Holds g G σ F H → W σ H) : S g (tSeq (tFor (iAny g.K te) tg tb) tw) D G := fun σ F H hh => .inl (.inl (h σ F H hh (fun F' H' s => k σ F' H' (hh.mono s)) _))
theorem xs_asg (h : XE1 g te G W) (k : ∀ σ F H, Holds g G σ F H → W σ H) : S g (tSeq (tAsg te tg) tw) D G := fun σ F H hh => h σ F H hh (fun F' H' s => k σ F' H' (hh.mono s)) _
end
theorem xn_tb {g : Gd} {G : List Sl} {Ek : XK} {C : Addr} (k : XnOk g Ek C) : ∀ σ F H, Holds g G σ F H → Ek (.ref C) none H := fun σ F H hh => k F H hh.st
/-- try: y = e / except c: suite -/
theorem q_tryM {g : Gd} {G : List Sl} {D : Ends} {j : Nat} {tw : TS} {c : Value} {te : WX → TE} {ts : Addr → Value → Option Addr → TS} {Wout : WX} {o : OutN} (hv : ∀ d, o = .val d → (∀ W, E g (te W) G d) ∧ S g tw D (G.set j (.fz d)))
    (hx : ∀ C, o = .exc C → (∀ W, XE1 g (te W) G fun σ H' => W (.ref C) none σ H') ∧ PySem.W.exmOne g.K (.ref C) c = some true ∧ ∀ a, S g (ts a (.ref C) none) { D with nx := tw D } G) :
    S g (tSeq (fun D σ H => tAsg (te (wMany g.K Wout D [(c, ts)])) (gName j) D σ H) tw) D G := fun σ F H hh => by
  cases o with
  | val d =>
    obtain ⟨h1, h2⟩ := hv d rfl
    exact h1 _ σ F H hh _ fun v F1 H1 s1 d1 => h2 _ F1 H1 ((hh.mono s1).setF d1)
  | exc C =>
    obtain ⟨h1, em, hs⟩ := hx C rfl
    exact h1 _ σ F H hh (fun F' H' s => ⟨true, em, fun _ a _ => hs a σ F' H' (hh.mono s), fun z => by cases z⟩) _
end DW

/-! sorted(set(xs)), xs a list of whole numbers -/
namespace DW
open PySem PySem.Spec PyProof.Rows L2
/-- the object that set() lays -/
def setNew (w : World) : Obj := { cls := .type "set", dict := none, data := .set #[] 0 (.fresh 0 0 (!w.params.followText "set-order")) }
section
variable {P : Program} {w : World} {A : Around} {E : Value → Shared → Prop} {s : Shared}
/-- set(a list of hin) -/
theorem call_setL {l : Addr} {xs : Array Value} (ks : List Int) {Q : Value → Shared → Prop} (calm : A.handled = none) (lsh : s.heap.IsList l xs) (hin : IntsAre xs.toList ks) (hfw : ks.length + 1 < scanBound)
    (fin : ∀ (h' : Heap) (tk c : Nat), SetR w h' s.heap.objs.size (fun j => decide (j ∈ ks)) c → c ≤ ks.length → (∀ b o, s.heap.get? b = some o → h'.get? b = some o) → Q (.ref s.heap.objs.size) { s with heap := h', toks := tk }) :
    wpAny (model P w) A (call (.type "set") [.ref l]) Q E s := by
  have lenx : xs.size = ks.length := by rw [← Array.length_toList]; exact IntsAre.length hin
  obtain ⟨_, _, _⟩ := PySem.F.called_set.mro
  have made := PySem.F.called_set.made
  have sub := PySem.F.called_set.sub
  apply wpAny_call
  apply codeAny_of_tree
  show wpAny _ _ (callAny (.type "set") _) _ _ _
  apply wpAny_pure
  refine ⟨Code.quiet_builtin _ (by decide +kernel), codeAny_builtin PySem.F.entry_type_call ?_⟩
  rw [Around.under_plain (weight_type_call_type "set" [.ref l] []) rfl]
  have t1 := PySem.F.called_set.notType
  have t2 := PySem.F.called_set.canCreate
  have t3 := PySem.F.typeCall_set_1 (.ref l)
  repeat (any_goals (first | assumption | wp_step))
  have nb : ∀ b o, s.heap.get? b = some o → b < s.heap.objs.size := fun b o e => Heap.lt_size e
  refine codeAny_mono (code_set_led1 (.ref l) (E := E) (Q₁ := fun v s1 => v = .ref s.heap.objs.size ∧ s1 = { s with heap := s.heap.push (setNew w) }) ⟨rfl, rfl⟩) fun r1 s1 hr1 => ?_
  rcases r1 with ex | fl
  · exact hr1
  rcases fl with _ | v | _ | _
  all_goals try exact hr1.elim
  obtain ⟨rfl, rfl⟩ := hr1
  have at0 : (s.heap.push (setNew w)).get? s.heap.objs.size = some (setNew w) := Heap.get?_push_size _ rfl
  have ty0 : Shared.TypeIs { s with heap := s.heap.push (setNew w) } (.ref s.heap.objs.size) "set" := ⟨_, at0, rfl⟩
  have u1 := PySem.F.called_set.init.lookup
  have u2 := PySem.F.called_set.init.bind (.ref s.heap.objs.size)
  repeat (any_goals (first | assumption | wp_step))
  refine codeAny_mono (codeAny_call_builtin (R := wants (fun v s2 => v = .none ∧ ∃ h' tk c, s2 = { s with heap := h', toks := tk } ∧ SetR w h' s.heap.objs.size (fun j => decide (j ∈ ks)) c ∧ c ≤ ks.length ∧ (∀ b o, s.heap.get? b = some o → h'.get? b = some o)) E)
    PySem.F.called_set.init.plain PySem.F.entry_set_init (check_set_init_1 ty0 ?_)) fun r2 s2 hr2 => ?_
  · obtain ⟨lo, lat, lc, ln, ld⟩ := lsh
    obtain ⟨k1, k2, k3, k4⟩ := lo
    have lc : k1 = .type "list" := lc
    have ld : k3 = .seq xs ln := ld
    subst lc ld
    have lat1 : (s.heap.push (setNew w)).get? l = some { cls := .type "list", dict := k2, data := .seq xs ln, slots := k4 } := Heap.get?_push_of_some _ lat
    have v1 := PySem.F.sub_list_set
    have v2 := PySem.F.sub_list_frozenset
    have v3 : (Value.type "list" == Value.type "dict") = false := by decide
    have lst1 : (s.heap.push (setNew w)).IsList l xs := ⟨_, lat1, rfl, ln, rfl⟩
    unfold Builtin.«set.__init__» noKeywords Builtin.Frozenset.updateFrom
    generalize iterate : pyIter = pit
    wp_walk
    subst iterate
    apply wpAny_pyIter_list lst1
    apply wpAny_bind
    apply wpAny_runValue
    have ll : l < s.heap.objs.size := nb _ _ lat
    have cl3 : A.in1.in1.in1.handled = none := by simp [calm]
    have sz : (s.heap.push (setNew w)).objs.size = s.heap.objs.size + 1 := Heap.size_push ..
    have ll' : (l : Nat) < s.heap.objs.size + 1 := Nat.lt_succ_of_lt ll
    have off : s.heap.objs.size ∉ [(s.heap.push (setNew w)).objs.size, l] := fun z => by
      rw [sz] at z
      rcases List.mem_cons.mp z with e | z
      · exact absurd e (by simp)
      · exact Nat.lt_irrefl _ ((List.mem_singleton.mp z) ▸ ll)
    have vals : ∀ (i : Nat) (v : Value), xs[i]? = some v → ∃ k t, ks[i]? = some k ∧ v = .int k t := fun i v e => by
      have hi : i < ks.length := by rw [← lenx]; exact (Array.getElem?_eq_some_iff.mp e).1
      obtain ⟨t, q⟩ := PyProof.Rows.IntsAre.int_at hin i v (by rw [Array.getElem?_toList]; exact e)
      refine ⟨ks[i], t, List.getElem?_eq_getElem hi, ?_⟩
      rw [q, List.getD_eq_getElem?_getD, List.getElem?_eq_getElem hi] <;> rfl
    refine set_update_ints ((Walks.list cl3 _ l (by rw [sz]; exact Nat.ne_of_lt ll') xs).toS) s.heap.objs.size off ks lenx hfw vals (xs.size - 0) 0 _ (by omega) (Nat.zero_le _) ⟨⟨_, Heap.get?_push_size _ rfl, rfl, rfl⟩, (lst1.push _)⟩ ?start ?stop
    case start =>
      have at1 : ((s.heap.push (setNew w)).push { cls := .type "list_iterator", data := .fields #[.ref l, .int 0 0] }).get? s.heap.objs.size = some (setNew w) := Heap.get?_push_of_some _ at0
      exact ⟨0, Nat.le_refl 0, setR_new_at at1⟩
    case stop =>
      intro s3 c3 mv le R3
      have e3 := Moved.eq_with mv
      show wpAny _ _ _ _ _ _
      apply wpAny_pure
      show wpAny _ _ (ret Value.none) _ _ _
      rw [lenx] at le
      refine wpAny_pure ⟨rfl, s3.heap, s3.toks, c3, e3, R3, le, fun b o e => ?_⟩
      have hb := nb b o e
      refine mv.heap b o (fun z => ?_) (Heap.get?_push_of_some _ (Heap.get?_push_of_some _ e))
      rcases List.mem_cons.mp z with q | z
      · exact Nat.lt_irrefl _ (q ▸ hb)
      · have := List.mem_singleton.mp z; rw [sz] at this; exact Nat.lt_irrefl _ (Nat.lt_of_lt_of_le (this ▸ hb) (Nat.le_succ _))
  · rcases r2 with ex | fl
    · exact hr2
    rcases fl with _ | v | _ | _
    all_goals try exact hr2.elim
    obtain ⟨rfl, h', tk, c, rfl, R2, le, kp⟩ := hr2
    repeat (any_goals (first | assumption | wp_step))
    exact fin _ _ _ R2 le kp
end
def SetIO (w : World) (a : Addr) (ks : List Int) : HO := .ext fun h => ∃ c, c ≤ ks.length ∧ SetR w h a (fun j => decide (j ∈ ks)) c
theorem ints_vals : ∀ {ks : List Int} {us : List Value}, Vals (ks.map V.int) us → IntsAre us ks
  | [], _, .nil => .nil
  | n :: ks, _, .cons r t => by
    obtain ⟨tk, rfl⟩ := r
    exact .cons n tk (ints_vals t)
theorem vals_ints : ∀ {ks : List Int} {us : List Value}, IntsAre us ks → Vals (ks.map V.int) us
  | _, _, .nil => .nil
  | _, _, .cons n tk t => .cons ⟨tk, rfl⟩ (vals_ints t)
/-- set(xs) -/
def rSetI (K : PySem.W.Frag) (w : World) : List V → Hp → VK → Prop := fun vs H Q => ∃ (l : Addr) (ks : List Int), vs = [V.ref l] ∧ SqL K H l (ks.map V.int) ∧ ks.length < 1000 ∧ ∀ a, H a = none → Q (.ref a) (upd H a (SetIO w a ks))
theorem cr_setI {X : Cx} (hc : X.calm = true) : CallR X (.type "set") (rSetI X.K X.w) := by
  intro pins s σ H vs us Q I r h
  obtain ⟨l, ks, rfl, hl, hk, q⟩ := h
  rw [Vals.ref1 r]
  obtain ⟨its, rv, pl, hz⟩ := I.list hl
  refine call_setL (P := X.prog) (w := X.w) ks (I.ok.hd hc) pl.isList (ints_vals (by simpa using rv)) (by unfold scanBound; omega) fun h' tk c R le kp => ?_
  have ob : ObjOk X.prog X.w (upd H s.heap.objs.size (SetIO X.w s.heap.objs.size ks)) h' s.heap.objs.size (SetIO X.w s.heap.objs.size ks) := by
    have ⟨o, _, _, _, ho, _⟩ := R
    exact ⟨⟨c, le, R⟩, ⟨o, ho⟩, fun h1 h2 ⟨c', le', p⟩ k => ⟨c', le', p.at k⟩⟩
  exact ⟨.ref s.heap.objs.size, upd H s.heap.objs.size (SetIO X.w s.heap.objs.size ks), I.laid (t' := tk) kp (Nat.le_refl _) ob, rfl, q _ (I.hok.fresh (Nat.le_refl _))⟩
/-- sorted(set) -/
def rSortSI (w : World) : List V → Hp → VK → Prop := fun vs H Q => ∃ (a : Addr) (ks : List Int), vs = [V.ref a] ∧ H a = some (SetIO w a ks) ∧ ks.length < 64 ∧ ∀ (ms : List Int) (p : Addr), ms.Pairwise (· < ·) → (∀ k, k ∈ ms ↔ k ∈ ks) → H p = none → Q (.ref p) (upd H p (.lst (ms.map V.int)))
theorem cr_sortSI {X : Cx} (hc : X.calm = true) : CallR X (.builtin "sorted") (rSortSI X.w) := by
  intro pins s σ H vs us Q I r h
  obtain ⟨a, ks, rfl, ha, hk, q⟩ := h
  obtain ⟨c, le, R⟩ := (I.hok a _ ha).1
  rw [Vals.ref1 r]
  refine sorted_set R (I.ok.hd hc) (by omega) fun s' p out cc ms kp g o hp hg hi srt mem ln => ?_
  have hlen : (ms.map V.int).length ≤ sizeLine := by rw [List.length_map, sizeLine_eq]; omega
  have hn : H p = none := I.hok.fresh hp
  have J : Inv X pins σ (upd H p (.lst (ms.map V.int))) { s with heap := s'.heap, gens := s'.gens, drawn := s'.drawn, toks := s'.toks } :=
    I.call (ch := []) (Un.laid kp hp hn) (I.hok.laid kp hp ⟨hlen, out.toList, cc, vals_ints hi, hg⟩) (by rw [g]; exact I.bare) (fun _ z => nomatch z)
  have e : s' = { s with heap := s'.heap, gens := s'.gens, drawn := s'.drawn, toks := s'.toks } := by
    cases s'
    cases s
    cases o
    rfl
  rw [e]
  exact ⟨.ref p, _, J, rfl, q ms p srt (fun k => by rw [mem, decide_eq_true_iff]) hn⟩
theorem uSetI {X : Cx} (K : PySem.W.Frag) (w : World) (hc : X.calm = true) (hK : X.K = K := by rfl) (hw : X.w = w := by rfl) : CallR X (.type "set") (rSetI K w) := by subst hK hw; exact cr_setI hc
theorem uSortSI {X : Cx} (w : World) (hc : X.calm = true) (hw : X.w = w := by rfl) : CallR X (.builtin "sorted") (rSortSI w) := by subst hw; exact cr_sortSI hc
/-- sorted(set(xs)): the one strictly ascending list with the same members -/
theorem el_sortSet {w : World} {g : Gd} {G : List Sl} {te : TE} {ks ms : List Int} (hb0 : B g te G (.list (ks.map .int))) (hk : ks.length < 64) (srt : ms.Pairwise (· < ·)) (mem : ∀ k, k ∈ ms ↔ k ∈ ks) :
    EL g (tCB (rSortSI w) (tCons (tCB (rSetI g.K w) (tCons te tNil)) tNil)) G (ms.map .int) := fun σ F H hh Q q => hb0 σ F H hh _ fun v F1 H1 s1 d1 => by
  obtain ⟨a, vs, rfl, h1, h2⟩ := dp_sq d1
  have e := dps_vints h2
  subst e
  refine ⟨a, ks, rfl, h1, by omega, fun b hb => ?_⟩
  have st := s1.trans (Stp.mine (o := SetIO w b ks) s1.i hb)
  refine ⟨b, ks, rfl, upd_same, hk, fun ms' p srt' mem' hp => ?_⟩
  have em : ms' = ms := List.Perm.eq_of_pairwise (le := (· < ·)) (fun a b _ _ x y => by omega) srt' srt ((List.perm_ext_iff_of_nodup (srt'.imp fun h e => by omega) (srt.imp fun h e => by omega)).mpr fun k => by rw [mem', mem])
  subst em
  exact q p _ F1 _ (st.trans (Stp.mine st.i hp)) (old_free st hp) (st.i.free hp) upd_same (dps_of_ints _)
end DW

/-! xs.count(x) over data; a loop with facts of the heap beside the slots -/
namespace DW
open PySem PySem.Spec PyProof.Rows L2
def rCount (K : PySem.W.Frag) : V → List V → Hp → VK → Prop := fun x vs H Q => ∃ l u xs d, x = .ref l ∧ vs = [u] ∧ Dp K H x (.list xs) ∧ Dp K H u d ∧ PyData.plainAll xs = true ∧ d.plain = true ∧ PyData.depthAll xs ≤ 50 ∧ Q (.int ((xs.countP fun y => PyData.eqv y d : Nat) : Int)) H
theorem mt_count {X : Cx} (hu : X.A.units + 64 < cLine) : MtM X "list.count" (rCount X.K) := by
  intro pins s σ H x vs v us Q I rx rv h
  obtain ⟨l, u, xs, d, rfl, rfl, hy, hx, p1, p2, dp, q⟩ := h
  cases rx
  obtain ⟨z, rfl, ru⟩ := rv.one
  obtain ⟨as, r1⟩ := Dp.reads I d u z hx ru
  obtain ⟨bs, r2⟩ := Dp.reads I _ (.ref l) (.ref l) hy rfl
  cases r2 with
  | list h1 h2 h3 h4 => exact PySem.SeqAt.count_list_data ⟨_, h1, h2, _, h3⟩ h4 r1 p1 p2 (by omega) ⟨.int _, H, I.tok _, ⟨_, rfl⟩, q⟩
theorem mt_countK {X : Cx} (K : PySem.W.Frag) (hu : X.A.units + 64 < cLine) (h : X.K = K := by rfl) : MtM X "list.count" (rCount K) := h ▸ mt_count hu
section
variable {g : Gd} {G : List Sl} {te ta : TE} {tg : TG} {tu : TS} {D : Ends} {d : PyData} {ds : List PyData}
theorem e_count (hb : B g ta G (.list ds)) (he : E g te G d) (p1 : PyData.plainAll ds = true) (p2 : d.plain = true) (dp : PyData.depthAll ds ≤ 50) : E g (tBM g.K "list" (rCount g.K) ta (tCons te tNil)) G (.int ((ds.countP fun y => PyData.eqv y d : Nat) : Int)) := fun σ F H hh Q q => hb σ F H hh _ fun v F1 H1 s1 d1 => by
  obtain ⟨a, vs, rfl, h1, h2⟩ := dp_sq d1
  refine ⟨.inl ⟨rfl, vs, h1⟩, he σ F1 H1 (hh.mono s1) _ fun u F2 H2 s2 d2 => ?_⟩
  exact ⟨a, u, ds, d, rfl, rfl, s2.h.dp _ _ d1, s2.i.ex.dp _ _ d2, p1, p2, dp, q _ F2 H2 (s1.trans s2) (.int _)⟩
/-- a new object that no slot holds stays for good -/
theorem Holds.frzAny {σ : L2.St} {F H : Hp} {p : Addr} {w : HO} (hh : Holds g G σ F H) (h0 : g.H0 p = none) (hF : F p = none) (hH : H p = some w) (nt : ∀ ps, w ≠ .tbl ps) (new : ∀ (j : Nat) (t : Sl), G[j]? = some t → t.mine = true → σ[j]? ≠ some (some (.ref p))) : Holds g G σ (upd F p w) H := by
  have ex : Ex F (upd F p w) := fun a u q _ => by rw [upd_ne (ne_of_none q hF)]; exact q
  refine ⟨hh.len, ⟨hh.st.f.trans ex, ⟨fun a u q n => ?_, fun a ps q => ?_⟩, hh.st.h, hh.st.s, hh.st.t, fun a u q n => ?_⟩, fun j s o e1 e2 => ?_, hh.apart, hh.tab, hh.lo.trans ex⟩
  · by_cases ha : a = p
    · subst ha; rw [upd_same] at q; cases q; exact hH
    · rw [upd_ne ha] at q; exact hh.st.i.ex a u q n
  · by_cases ha : a = p
    · subst ha; rw [upd_same] at q; exact nt ps (Option.some.inj q)
    · rw [upd_ne ha] at q; exact hh.st.i.nt a ps q
  · rw [upd_ne (ne_of_none q h0)]; exact hh.st.n a u q n
  · have q := hh.sl j s o e1 e2
    cases s with
    | un => trivial
    | fz d => obtain ⟨v, ev, hv⟩ := q; exact ⟨v, ev, ex.dp d v hv⟩
    | raw v => exact q
    | ow es =>
      obtain ⟨r, ws, er, q0, qF, qH, qd⟩ := q
      subst er
      refine ⟨r, ws, rfl, q0, ?_, qH, ex.dps es ws qd⟩
      rw [upd_ne (fun z => new j _ e1 rfl (by rw [e2, z]))]; exact qF
    | od es =>
      obtain ⟨r, ws, er, q0, qF, qH, qd⟩ := q
      subst er
      refine ⟨r, ws, rfl, q0, ?_, qH, qd.mono ex⟩
      rw [upd_ne (fun z => new j _ e1 rfl (by rw [e2, z]))]; exact qF
    | fk es =>
      obtain ⟨r, ws, er, hr, qd⟩ := q
      exact ⟨r, ws, er, ex.rd hr (fun _ z => by cases z), qd.mono ex⟩
    | ob C =>
      obtain ⟨r, u, er, q0, qF, qH, qn, qC⟩ := q
      subst er
      refine ⟨r, u, rfl, q0, ?_, qH, qn, fun F2 e2 => qC F2 (ex.trans e2)⟩
      rw [upd_ne (fun z => new j _ e1 rfl (by rw [e2, z]))]; exact qF

/-- some state of the turn holds, and the heaps are so -/
def nxX (g : Gd) {α : Type} (Iv : α → List Sl) (P : α → Prop) (Xf : α → Hp → Hp → Prop) : L2.St → Hp → Prop := fun σ H => ∃ a, P a ∧ ∃ F, Holds g (Iv a) σ F H ∧ Xf a F H
theorem s_forX {α : Type} {wi : TI} (Iv : Nat → α → List Sl) (P : Nat → α → Prop) (Xf : α → Hp → Hp → Prop) (it : IT g wi G ds) (mono : ∀ a F H F' H', Stp F H F' H' → Xf a F H → Xf a F' H')
    (turn : ∀ F1 (i : Nat) (a : α) (d : PyData), ds[i]? = some d → P i a → ∃ G1 ix, Tg { g with Fl := F1 } tg d (Iv i a) G1 ix ∧
      ∀ σ F H, Holds { g with Fl := F1 } G1 σ F H → Xf a F H → tu { D with nx := nxX { g with Fl := F1 } (Iv (i + 1)) (P (i + 1)) Xf, ct := nxX { g with Fl := F1 } (Iv (i + 1)) (P (i + 1)) Xf, bk := D.nx } σ H)
    {σ : L2.St} {F H : Hp} (hh : Holds g G σ F H) (a0 : α) (p0 : P 0 a0) (w0 : Wk G (Iv 0 a0)) (x0 : Xf a0 F H)
    (done : ∀ a, P ds.length a → ∀ σ F H, Holds g (Iv ds.length a) σ F H → Xf a F H → D.nx σ H) : tFor wi tg tu D σ H := it σ F H hh _ fun J F1 H1 s1 W => by
  have up : ∀ {G : List Sl} {σ : L2.St} {F H : Hp}, Ex g.Fl F1 → Holds { g with Fl := F1 } G σ F H → Holds g G σ F H := fun e h => ⟨h.len, h.st, h.sl, h.apart, h.tab, e.trans h.lo⟩
  have el : Ex g.Fl F1 := hh.lo.trans s1.f
  refine ⟨fun i m σ H => m = ds.length - i ∧ i ≤ ds.length ∧ nxX { g with Fl := F1 } (Iv i) (P i) Xf σ H, ⟨ds.length, by simp, Nat.zero_le _, a0, p0, F1, ?_, mono _ _ _ _ _ s1 x0⟩, ?_⟩
  · have h1 := (hh.mono s1).wk w0
    exact ⟨h1.len, h1.st, h1.sl, h1.apart, h1.tab, Ex.refl F1⟩
  · rintro i m σ2 H2 ⟨rfl, hi, a, p, F2, hh2, x2⟩
    by_cases hlt : i < ds.length
    · refine .inr ⟨W.go i F2 H2 hh2.lo hh2.st.i hlt, nxX { g with Fl := F1 } (Iv (i + 1)) (P (i + 1)) Xf, fun σ' H' q => ⟨ds.length - (i + 1), by omega, rfl, hlt, q⟩, fun x H' y => ?_⟩
      obtain ⟨F3, s3, d3⟩ := W.yld i F2 H2 x H' ds[i] hh2.lo hh2.st.i (List.getElem?_eq_getElem hlt) y
      obtain ⟨G1, ix, ht, hs⟩ := turn F1 i a ds[i] (List.getElem?_eq_getElem hlt) p
      exact ht x σ2 F3 H' (hh2.mono s3) d3 _ fun σ' h' _ => hs σ' F3 H' h' (mono _ _ _ _ _ s3 x2)
    · have e : i = ds.length := by omega
      subst e
      exact .inl ⟨W.stop F2 H2 hh2.lo hh2.st.i, done a p σ2 F2 H2 (up el hh2) x2⟩
end
end DW

/-! d.setdefault(k, []).append(x): an own dict by tuples whose values are own lists -/
namespace DW
open PySem PySem.Spec PyProof.Rows L2
abbrev GL := List (PyData × List PyData)
structure GdK (K : PySem.W.Frag) (H0 F H : Hp) (p : NE) (q : PyData × List PyData) : Prop where
  k : p.1 = nk q.1
  y : kyD q.1 = true
  n : (nk q.1).depth ≤ 8
  a : Dp K F (.ref p.2.1) q.1
  v : ∃ b us, p.2.2 = .ref b ∧ H0 b = none ∧ F b = none ∧ H b = some (.lst us) ∧ DpAll K F us q.2
abbrev GdR (K : PySem.W.Frag) (H0 F H : Hp) : List NE → GL → Prop := Paired (GdK K H0 F H)
def vAd (p : NE) : V := p.2.2
structure OpD (P : Program) (w : World) (K : PySem.W.Frag) (H0 : Hp) (D : Addr) (gs : GL) (F H : Hp) : Prop where
  ex : ∃ kvs, H0 D = none ∧ F D = none ∧ H D = some (ndO P w D kvs) ∧ GdR K H0 F H kvs gs ∧ (kvs.map vAd).Nodup ∧ (kvs.map (·.1)).Nodup
def hasG (gs : GL) (k : PyData) : Bool := gs.any fun p => decide (nk p.1 = nk k)
def addG (gs : GL) (k : PyData) (x : PyData) : GL := if hasG gs k = true then gs.map (fun p => if nk p.1 = nk k then (p.1, p.2 ++ [x]) else p) else gs ++ [(k, [x])]
section
variable {P : Program} {w : World} {K : PySem.W.Frag} {H0 F H F' H' : Hp} {D : Addr}
theorem GdK.mono (s : Stp F H F' H') {p : NE} {q : PyData × List PyData} (h : GdK K H0 F H p q) : GdK K H0 F' H' p q := by
  obtain ⟨b, us, e, h0, hF, hH, d⟩ := h.v
  exact ⟨h.k, h.y, h.n, s.f.dp _ _ h.a, b, us, e, h0, s.n b _ hH hF, s.h.lst hH, s.f.dps _ _ d⟩
theorem OpD.mono (gs : GL) (F H F' H' : Hp) (s : Stp F H F' H') (h : OpD P w K H0 D gs F H) : OpD P w K H0 D gs F' H' := by
  obtain ⟨kvs, h0, hF, hH, r, nd⟩ := h.ex
  exact ⟨kvs, h0, s.n D _ hH hF, s.h D _ hH ndO_nt, Paired.mapP r fun _ _ z => z.mono s, nd⟩
theorem gd_keys (sb : Sub F H) : ∀ {kvs : List NE} {gs : GL}, GdR K H0 F H kvs gs → KeysAt K H kvs
  | _, _, .nil, p, hp => by cases hp
  | _, q :: _, .cons h t, p, hp => by
    rcases List.mem_cons.mp hp with rfl | hp
    · exact ⟨q.1, h.y, h.k.symm, h.k ▸ h.n, sb.ex.dp _ _ h.a⟩
    · exact gd_keys sb t p hp
theorem gd_at (k : PyData) : ∀ {kvs : List NE} {gs : GL}, GdR K H0 F H kvs gs → (atV kvs (nk k) = none ∧ hasG gs k = false) ∨ ∃ a v p, atV kvs (nk k) = some (a, v) ∧ hasG gs k = true ∧ p ∈ kvs ∧ p.2.2 = v
  | _, _, .nil => .inl ⟨rfl, rfl⟩
  | p :: ps, q :: qs, .cons h t => by
    have hk := h.k
    unfold atV hasG
    rw [List.find?_cons, List.any_cons, hk]
    by_cases e : nk q.1 = nk k
    · rw [decide_eq_true e]
      exact .inr ⟨p.2.1, p.2.2, p, rfl, rfl, List.mem_cons_self, rfl⟩
    · rw [decide_eq_false e, Bool.false_or]
      rcases gd_at k t with ⟨e1, e2⟩ | ⟨a, v, r, e1, e2, e3, e4⟩
      · exact .inl ⟨e1, e2⟩
      · exact .inr ⟨a, v, r, e1, e2, List.mem_cons_of_mem _ e3, e4⟩
theorem gd_len : ∀ {kvs : List NE} {gs : GL}, GdR K H0 F H kvs gs → kvs.length = gs.length := fun r => Paired.length r
/-- an object that no value is -/
theorem gd_off {b : Addr} {o : HO} : ∀ {kvs : List NE} {gs : GL}, GdR K H0 F H kvs gs → V.ref b ∉ kvs.map vAd → GdR K H0 F (upd H b o) kvs gs
  | _, _, .nil, _ => .nil
  | p :: ps, q :: qs, .cons h t, hn => by
    rw [List.map_cons, List.mem_cons, not_or] at hn
    obtain ⟨c, us, e, h0, hF, hH, d⟩ := h.v
    refine .cons ⟨h.k, h.y, h.n, h.a, c, us, e, h0, hF, ?_, d⟩ (gd_off t hn.2)
    rw [upd_ne (fun z => hn.1 (by show V.ref b = p.2.2; rw [e, z]))]; exact hH
theorem gd_same {k x : PyData} : ∀ {kvs : List NE} {gs : GL}, GdR K H0 F H kvs gs → nk k ∉ kvs.map (·.1) → gs.map (fun q => if nk q.1 = nk k then (q.1, q.2 ++ [x]) else q) = gs
  | _, _, .nil, _ => rfl
  | p :: ps, q :: qs, .cons h t, hn => by
    rw [List.map_cons, List.mem_cons, not_or] at hn
    rw [List.map_cons, if_neg (fun z => hn.1 (by rw [h.k]; exact z.symm)), gd_same t hn.2]
theorem atV_mem {k : NestedKey} {a : Addr} {v : V} : ∀ {kvs : List NE}, atV kvs k = some (a, v) → v ∈ kvs.map vAd ∧ k ∈ kvs.map (·.1)
  | [], h => by cases h
  | p :: ps, h => by
    unfold atV at h
    rw [List.find?_cons] at h
    by_cases e : p.1 = k
    · rw [decide_eq_true e] at h
      have h : some (p.2.1, p.2.2) = some (a, v) := h
      have hv : p.2.2 = v := congrArg Prod.snd (Option.some.inj h)
      subst hv
      exact ⟨List.mem_cons_self, by rw [List.map_cons, e]; exact List.mem_cons_self⟩
    · rw [decide_eq_false e] at h
      have := atV_mem (kvs := ps) (k := k) (a := a) (v := v) h
      exact ⟨List.mem_cons_of_mem _ this.1, List.mem_cons_of_mem _ this.2⟩
theorem gd_upd {k x : PyData} {b : Addr} {us : List V} {z : V} {a : Addr} (hb : H b = some (.lst us)) (dz : Dp K F z x) : ∀ {kvs : List NE} {gs : GL}, GdR K H0 F H kvs gs → (kvs.map vAd).Nodup → (kvs.map (·.1)).Nodup → atV kvs (nk k) = some (a, .ref b) →
    GdR K H0 F (upd H b (.lst (us ++ [z]))) kvs (gs.map fun q => if nk q.1 = nk k then (q.1, q.2 ++ [x]) else q)
  | _, _, .nil, _, _, h => by cases h
  | p :: ps, q :: qs, .cons h t, n1, n2, he => by
    rw [List.map_cons] at n1 n2
    have n1 := List.nodup_cons.mp n1
    have n2 := List.nodup_cons.mp n2
    rw [List.map_cons]
    obtain ⟨c, us', e, h0, hF, hH, d⟩ := h.v
    unfold atV at he
    rw [List.find?_cons] at he
    by_cases e1 : p.1 = nk k
    · rw [decide_eq_true e1] at he
      have he : some (p.2.1, p.2.2) = some (a, V.ref b) := he
      have e2 : p.2.2 = V.ref b := congrArg Prod.snd (Option.some.inj he)
      have e3 : c = b := by rw [e2] at e; cases e; rfl
      subst e3
      rw [hH] at hb
      cases hb
      rw [if_pos (by rw [← h.k]; exact e1)]
      refine .cons ⟨h.k, h.y, h.n, h.a, c, us ++ [z], e, h0, hF, upd_same, dps_app d (.cons dz .nil)⟩ ?_
      rw [gd_same (x := x) t (by rw [← e1]; exact n2.1)]
      exact gd_off t (by have := n1.1; unfold vAd at this; rw [e2] at this; exact this)
    · rw [decide_eq_false e1] at he
      have he : atV ps (nk k) = some (a, V.ref b) := he
      have hm := (atV_mem he).1
      rw [if_neg (by rw [← h.k]; exact e1)]
      refine .cons ⟨h.k, h.y, h.n, h.a, c, us', e, h0, hF, ?_, d⟩ (gd_upd hb dz t n1.2 n2.2 he)
      rw [upd_ne (fun w => n1.1 (by show p.2.2 ∈ _; rw [e, w]; exact hm))]; exact hH
theorem gd_val {k : PyData} {v : V} {a : Addr} : ∀ {kvs : List NE} {gs : GL}, GdR K H0 F H kvs gs → atV kvs (nk k) = some (a, v) → ∃ b us, v = .ref b ∧ H0 b = none ∧ F b = none ∧ H b = some (.lst us) ∧ ∃ q ∈ gs, us.length = q.2.length
  | _, _, .nil, h => by cases h
  | p :: ps, q :: qs, .cons h t, he => by
    unfold atV at he
    rw [List.find?_cons] at he
    by_cases e1 : p.1 = nk k
    · rw [decide_eq_true e1] at he
      have he : some (p.2.1, p.2.2) = some (a, v) := he
      obtain ⟨c, us, e, h0, hF, hH, d⟩ := h.v
      exact ⟨c, us, (congrArg Prod.snd (Option.some.inj he)).symm.trans e, h0, hF, hH, q, List.mem_cons_self, dps_len d⟩
    · rw [decide_eq_false e1] at he
      obtain ⟨b, us, h1, h2, h3, h4, r, hr, hl⟩ := gd_val (kvs := ps) t he
      exact ⟨b, us, h1, h2, h3, h4, r, List.mem_cons_of_mem _ hr, hl⟩
theorem gd_left : ∀ {kvs : List NE} {gs : GL}, GdR K H0 F H kvs gs → ∀ p ∈ kvs, ∃ q ∈ gs, GdK K H0 F H p q
  | _, _, .nil, p, hp => by cases hp
  | _, q :: _, .cons h t, p, hp => by
    rcases List.mem_cons.mp hp with rfl | hp
    · exact ⟨q, List.mem_cons_self, h⟩
    · obtain ⟨r, hr, z⟩ := gd_left t p hp
      exact ⟨r, List.mem_cons_of_mem _ hr, z⟩
theorem gd_app {n : NE} {m : PyData × List PyData} (h0 : GdK K H0 F H n m) : ∀ {kvs : List NE} {gs : GL}, GdR K H0 F H kvs gs → GdR K H0 F H (kvs ++ [n]) (gs ++ [m])
  | _, _, .nil => .cons h0 .nil
  | _ :: _, _ :: _, .cons h t => .cons h (gd_app h0 t)
theorem atV_none {k : NestedKey} : ∀ {kvs : List NE}, atV kvs k = none → k ∉ kvs.map (·.1)
  | [], _ => by simp
  | p :: ps, h => by
    unfold atV at h
    rw [List.find?_cons] at h
    by_cases e : p.1 = k
    · rw [decide_eq_true e] at h; cases h
    · rw [decide_eq_false e] at h
      rw [List.map_cons, List.mem_cons, not_or]
      exact ⟨fun z => e z.symm, atV_none (kvs := ps) h⟩
end
def NoMine (G : List Sl) : Prop := ∀ (j : Nat) (t : Sl), G[j]? = some t → t.mine = false
theorem NoMine.new {G : List Sl} {σ : L2.St} (h : NoMine G) {p : Addr} : ∀ (j : Nat) (t : Sl), G[j]? = some t → t.mine = true → σ[j]? ≠ some (some (V.ref p)) := fun j t e m => by rw [h j t e] at m; cases m
section
variable {P : Program} {w : World} {g : Gd} {G : List Sl} {σ : L2.St} {F H : Hp} {Da : Addr} {i : Nat} {D : Ends} {tk tx : TE} {k x : PyData} {gs : GL}
/-- d.setdefault(k, []).append(x) -/
theorem s_sdapp (hn : NoMine G) (e1 : σ[i]? = some (some (.ref Da))) (hk : E g tk G k) (ky : kyD k = true) (dk : (nk k).depth ≤ 8) (ht : ∃ l, k = .tuple l) (hx : E g tx G x) (hz : gs.length ≤ 50000) (hz2 : ∀ q ∈ gs, q.2.length ≤ 50000)
    (kk : ∀ F' H', Ex F F' → Holds g G σ F' H' → OpD P w g.K g.H0 Da (addG gs k x) F' H' → D.nx σ H') (hh : Holds g G σ F H) (op : OpD P w g.K g.H0 Da gs F H) :
    tDrop (tBM g.K "list" rAppend (tDSetdN P w g.K (tVar i) tk (tLst tNil)) (tCons tx tNil)) D σ H := by
  have line : 100000 ≤ sizeLine := by decide
  obtain ⟨kvs0, _, _, hH, r0, _⟩ := op.ex
  refine ⟨.ref Da, e1, Da, kvs0, rfl, hH, gd_keys hh.st.i r0, hk σ F H hh _ fun u F1 H1 s1 d1 => ⟨Nat.zero_le _, fun b hb => ?_⟩⟩
  have hh1 := hh.mono s1
  have s2 : Stp F1 H1 F1 (upd H1 b (.lst [])) := Stp.mine hh1.st.i hb
  have hh2 := hh1.mono s2
  obtain ⟨a, rfl⟩ := tup_ref ht d1
  obtain ⟨kvs, h0, hF, hH1, r1, nv, nkk⟩ := (OpD.mono gs _ _ _ _ s1 op).ex
  have hH2 := s2.h Da _ hH1 ndO_nt
  have r : GdR g.K g.H0 F1 (upd H1 b (.lst [])) kvs gs := Paired.mapP r1 fun _ _ z => z.mono s2
  have ln := gd_len r
  refine ⟨a, kvs, nk k, rfl, hH2, gd_keys hh2.st.i r, ⟨k, ky, rfl, dk, hh2.st.i.ex.dp _ _ d1⟩, Nat.lt_of_lt_of_le (by omega) line, fun a' v e => ?_, fun e => ?_⟩
  · obtain ⟨c, us, rfl, c0, cF, cH, q, hq, lq⟩ := gd_val r e
    have lq := hz2 q hq
    refine ⟨.inl ⟨rfl, us, .inl (.inl cH)⟩, hx σ F1 _ hh2 _ fun z F3 H3 s3 d3 => ?_⟩
    have cH3 := s3.h.lst cH
    have hD3 := s3.h Da _ hH2 ndO_nt
    have hDc : Da ≠ c := fun z => by rw [z, cH3] at hD3; unfold ndO at hD3; cases hD3
    refine ⟨c, us, z, rfl, rfl, cH3, Nat.lt_of_lt_of_le (by omega) line, ?_⟩
    have eg : addG gs k x = gs.map (fun p => if nk p.1 = nk k then (p.1, p.2 ++ [x]) else p) := by
      rcases gd_at k r with ⟨e2, _⟩ | ⟨_, _, _, _, e2, _⟩
      · rw [e] at e2; cases e2
      · exact if_pos e2
    rw [eg] at kk
    have r3 : GdR g.K g.H0 F3 H3 kvs gs := Paired.mapP r fun _ _ y => y.mono s3
    refine kk _ _ (s1.f.trans s3.f) ((hh2.mono s3).mut c0 (s3.n c _ cH cF) cH3 (fun _ z => by cases z) hn.new) ⟨kvs, h0, s3.n Da _ hH2 hF, ?_, gd_upd cH3 d3 r3 nv nkk e, nv, nkk⟩
    rw [upd_ne hDc]; exact hD3
  · have hDb : Da ≠ b := fun z => by rw [z, upd_same] at hH2; unfold ndO at hH2; cases hH2
    have es : storeV kvs (nk k) a (.ref b) = kvs ++ [(nk k, a, .ref b)] := by
      unfold storeV
      rw [e]; rfl
    have hh3 := hh2.mut h0 hF hH2 (o2 := ndO P w Da (storeV kvs (nk k) a (.ref b))) ndO_nt hn.new
    have b3 : upd (upd H1 b (.lst [])) Da (ndO P w Da (storeV kvs (nk k) a (.ref b))) b = some (.lst []) := by rw [upd_ne (Ne.symm hDb), upd_same]
    refine ⟨.inl ⟨rfl, [], .inl (.inl b3)⟩, hx σ F1 _ hh3 _ fun z F3 H3 s3 d3 => ?_⟩
    have b0 : g.H0 b = none := old_free hh1.st hb
    have bF : F1 b = none := hh1.st.i.free hb
    have bH3 := s3.h.lst b3
    have D3 : upd (upd H1 b (.lst [])) Da (ndO P w Da (storeV kvs (nk k) a (.ref b))) Da = some (ndO P w Da (storeV kvs (nk k) a (.ref b))) := upd_same
    have hD3 := s3.h Da _ D3 ndO_nt
    refine ⟨b, [], z, rfl, rfl, bH3, Nat.lt_of_lt_of_le (by decide : 0 < 100000) line, ?_⟩
    have eg : addG gs k x = gs ++ [(k, [x])] := by
      rcases gd_at k r with ⟨_, e2⟩ | ⟨_, _, _, e2, _⟩
      · exact if_neg (by rw [e2]; decide)
      · rw [e] at e2; cases e2
    rw [eg] at kk
    have nb : V.ref b ∉ kvs.map vAd := fun hm => by
      obtain ⟨p, hp, ep⟩ := List.mem_map.mp hm
      obtain ⟨q, _, hq⟩ := gd_left r1 p hp
      obtain ⟨c, us, ec, _, _, hc, _⟩ := hq.v
      have : c = b := by
        have ep : p.2.2 = V.ref b := ep
        rw [ec] at ep; cases ep; rfl
      rw [this, hb] at hc; cases hc
    have r2 : GdR g.K g.H0 F1 (upd (upd H1 b (.lst [])) Da (ndO P w Da (storeV kvs (nk k) a (.ref b)))) kvs gs := gd_off r (fun hm => by
      obtain ⟨p, hp, ep⟩ := List.mem_map.mp hm
      obtain ⟨q, _, hq⟩ := gd_left r p hp
      obtain ⟨c, us, ec, _, _, hc, _⟩ := hq.v
      have : c = Da := by
        have ep : p.2.2 = V.ref Da := ep
        rw [ec] at ep; cases ep; rfl
      rw [this, hH2] at hc; unfold ndO at hc; cases hc)
    have r3 : GdR g.K g.H0 F3 H3 kvs gs := Paired.mapP r2 fun _ _ y => y.mono s3
    have r4 : GdR g.K g.H0 F3 (upd H3 b (.lst ([] ++ [z]))) kvs gs := gd_off r3 nb
    refine kk _ _ (s1.f.trans s3.f) ((hh3.mono s3).mut b0 (s3.n b _ b3 bF) bH3 (fun _ z => by cases z) hn.new) ⟨storeV kvs (nk k) a (.ref b), h0, s3.n Da _ D3 hF, ?_, ?_, ?_, ?_⟩
    · rw [upd_ne hDb]; exact hD3
    · rw [es]
      exact gd_app ⟨rfl, ky, dk, s3.f.dp _ _ d1, b, [z], rfl, b0, s3.n b _ b3 bF, upd_same, .cons d3 .nil⟩ r4
    · rw [es, List.map_append]
      exact List.nodup_append.mpr ⟨nv, by simp, fun y hy v hv => by
        have hv : v ∈ [V.ref b] := hv
        rw [List.mem_singleton.mp hv]
        exact fun z => nb (z ▸ hy)⟩
    · rw [es, List.map_append]
      refine List.nodup_append.mpr ⟨nkk, by simp, fun y hy v hv => ?_⟩
      have hv : v ∈ [nk k] := hv
      rw [List.mem_singleton.mp hv]
      exact fun z => atV_none e (z ▸ hy)
theorem gd_frz {K : PySem.W.Frag} {H0 : Hp} (eK : g.K = K) (e0 : g.H0 = H0) (hn : NoMine G) : ∀ {kvs : List NE} {gs : GL} {F : Hp}, GdR K H0 F H kvs gs → (kvs.map vAd).Nodup → Holds g G σ F H →
    ∃ F', Ex F F' ∧ Holds g G σ F' H ∧ Nd K F' kvs (gs.map fun q => (q.1, .list q.2)) ∧ ∀ a, V.ref a ∉ kvs.map vAd → F a = none → F' a = none
  | _, _, F, .nil, _, hh => ⟨F, Ex.refl F, hh, .nil, fun _ _ h => h⟩
  | p :: ps, q :: qs, F, .cons h t, nd, hh => by
    rw [List.map_cons] at nd
    have nd := List.nodup_cons.mp nd
    obtain ⟨c, us, e, c0, cF, cH, d⟩ := h.v
    have hh1 := hh.frzAny (by rw [e0]; exact c0) cF cH (fun _ z => by cases z) hn.new
    have x1 : Ex F (upd F c (.lst us)) := fun a u y _ => by rw [upd_ne (ne_of_none y cF)]; exact y
    have t1 : GdR K H0 (upd F c (.lst us)) H ps qs := by
      have : ∀ {ps : List NE} {qs : GL}, GdR K H0 F H ps qs → V.ref c ∉ ps.map vAd → GdR K H0 (upd F c (.lst us)) H ps qs := by
        intro ps qs r
        induction r with
        | nil => exact fun _ => .nil
        | cons h2 t2 ih =>
          intro hm
          rw [List.map_cons, List.mem_cons, not_or] at hm
          obtain ⟨c', us', e', c0', cF', cH', d'⟩ := h2.v
          refine .cons ⟨h2.k, h2.y, h2.n, x1.dp _ _ h2.a, c', us', e', c0', ?_, cH', x1.dps _ _ d'⟩ (ih hm.2)
          rw [upd_ne (fun z => hm.1 (by show V.ref c = _; unfold vAd; rw [e', z]))]; exact cF'
      exact this t (by have := nd.1; unfold vAd at this; rw [e] at this; exact this)
    obtain ⟨F', x2, hh2, nd2, fr⟩ := gd_frz eK e0 hn t1 nd.2 hh1
    have fc : F' c = some (.lst us) := x2 c _ upd_same (fun _ z => by cases z)
    refine ⟨F', x1.trans x2, hh2, .cons ⟨h.k, h.y, by rw [h.k]; exact h.n, x2.dp _ _ (x1.dp _ _ h.a), by rw [e]; exact .lst (.inl (.inl fc)) (x2.dps _ _ (x1.dps _ _ d))⟩ nd2, fun a ha hF => ?_⟩
    rw [List.map_cons, List.mem_cons, not_or] at ha
    refine fr a ha.2 ?_
    rw [upd_ne (fun z => ha.1 (by show V.ref a = _; unfold vAd; rw [e, z]))]; exact hF
/-- all lists for good: an own dict by tuples -/
theorem od_done (hn : NoMine G) (hh : Holds g G σ F H) (e1 : σ[i]? = some (some (.ref Da))) (op : OpD P w g.K g.H0 Da gs F H) :
    ∃ F', Ex F F' ∧ Holds g (G.set i (.ob (ndC P w g.K (gs.map fun q => (q.1, .list q.2))))) σ F' H := by
  obtain ⟨kvs, h0, hF, hH, r, nv, nkk⟩ := op.ex
  obtain ⟨F', x, hh', nd, fr⟩ := gd_frz rfl rfl hn r nv hh
  have nD : V.ref Da ∉ kvs.map vAd := fun hm => by
    obtain ⟨p, hp, ep⟩ := List.mem_map.mp hm
    obtain ⟨q, _, hq⟩ := gd_left r p hp
    obtain ⟨c, us, ec, _, _, hc, _⟩ := hq.v
    have : c = Da := by
      have ep : p.2.2 = V.ref Da := ep
      rw [ec] at ep; cases ep; rfl
    rw [this, hH] at hc; unfold ndO at hc; cases hc
  have hs := hh'.set (i := i) (v := .ref Da) (s := .ob (ndC P w g.K (gs.map fun q => (q.1, .list q.2)))) ⟨Da, _, rfl, h0, fr Da nD hF, hH, ndO_nt, fun F2 e2 => ⟨kvs, rfl, nd.mono e2⟩⟩ (fun _ j t _ ej m => hn.new j t ej m)
  have es : σ.set i (some (.ref Da)) = σ := List.ext_getElem? fun j => by
    have hi : i < σ.length := (List.getElem?_eq_some_iff.mp e1).1
    by_cases hj : i = j
    · subst hj; rw [List.getElem?_set_self hi, e1]
    · rw [List.getElem?_set_ne hj]
  rw [es] at hs
  exact ⟨F', x, hs⟩
end
end DW

/-! sorted(d) of a dict by tuples, an empty tuple among its keys; sum of a list of ints -/
namespace DW
open PySem PySem.Spec PySem.W PySem.SeqAt PyProof.Rows
theorem list_sort_tups {prog : Program} {w : World} {A : Around} {E : Value → Shared → Prop} {s : Shared} {β : Type} {vs : List Value} {bs : List β} {enc : β → PyData} {R : Value → β → Prop} {a : Addr} {n : Nat} {Q : Value → Shared → Prop} (ho : s.heap.get? a = some (seqObj "list" vs.toArray n)) (e : EachIs R vs bs) (er : EachIs (fun v b => ∃ as, Reads s.heap v (enc b) as ∧ a ∉ as) vs bs) (hal : AllAlike (bs.map enc)) (ht : ∀ d ∈ bs.map enc, ∃ xs, d = .tuple xs) (hL : bs.length ≤ sizeLine)
    (hu : ∀ b, b ∈ bs → A.units + 1 + (enc b).depth < cLine) (h : ∀ out, out.length = bs.length → EachIs R out (bs.mergeSort (dataLe false enc)) → Q .none { s with heap := sortedHeap s.heap a vs (List.toArray out) }) :
    wpAny (model prog w) A (call (.builtin "list.sort") [.ref a]) Q E s := by
  have er' : EachIs (fun v b => ∃ as, Reads (sortingHeap s.heap a vs) v (enc b) as) vs bs := each_keepBut (h' := sortingHeap s.heap a vs) (fun _ _ hb q => sortingHeap_old hb q) (fun o q => by rw [ho] at q; rw [← Option.some.inj q]) hal er
  have so := sorts_tup (prog := prog) (w := w) (A := A.in1) (s := { s with heap := sortingHeap s.heap a vs }) (each_map (R := fun v d => ∃ as, Reads (sortingHeap s.heap a vs) v d as) enc er') hal ht (fun d hd => by
    obtain ⟨b, hb, rfl⟩ := List.mem_map.mp hd
    exact hu b hb)
  refine wpAny_call_entry F.slot_list_sort ⟨_, ho, rfl⟩ F.entry_list_sort (list_sort_vals (κ := dataKind (sortingHeap s.heap a vs) (bs.map enc)) ho so (by rw [e.length]; exact hL) ⟨.none, rfl, ?_⟩) (PyProof.Rows.args_list_sort _)
  exact h _ (by rw [sortVals_length false rfl]; exact e.length) (sortVals_data false e er' hal)
end DW
namespace DW
open PySem PySem.Spec PyProof.Rows L2
/-- sorted(d) -/
def rSortM (P : Program) (w : World) (K : PySem.W.Frag) : List V → Hp → VK → Prop := fun vs H Q => ∃ (D : Addr) (kvs : List NE) (ds : List PyData), vs = [.ref D] ∧ H D = some (ndO P w D kvs) ∧ KeysAt K H kvs ∧ DpAll K H (kvs.map fun p => V.ref p.2.1) ds ∧ SoT ds ∧
  ∀ (zs : List (V × PyData)) (p : Addr), zs.Perm ((kvs.map fun p => V.ref p.2.1).zip ds) → zs.map (·.2) = sortA ds → H p = none → Q (.ref p) (upd H p (.lst (zs.map (·.1))))
section
variable {X : Cx} (P : Program) (w : World) (K : PySem.W.Frag)
theorem cr_sortM (hc : X.calm = true) (hu : X.A.units + 64 < cLine) : CallR X (.builtin "sorted") (rSortM X.prog X.w X.K) := by
  intro pins s σ H vs us Q I r h
  obtain ⟨D, kvs, ds, rfl, hD, ks, hdp, ok, q⟩ := h
  rw [Vals.ref1 r]
  obtain ⟨zl, hd, xs, rel, dd⟩ := nd_of I hD ks
  obtain ⟨es, ep, raw, hsz, hes⟩ := dd.raw
  have lk : kvs.length = xs.length := Paired.length rel
  refine PySem.Calls.call_function_entry kind_sorted plain_sorted entry_sorted (args_sorted1 _) ?_
  unfold Builtin.«sorted»
  refine wpAny_bind (m := checkCount "sorted" 1 1 _) (wpAny_pure ?_)
  refine wpAny_bind (PySem.W.kdu_collect (A := X.A.in1) (KdlSrc.rawDict (es := es) (ep := ep) hd) (I.ok.hd hc) raw (by rw [hsz, ← lk]; exact zl) fun h' tk acc hk hacc => ?_)
  have hl : acc.toList.length = es.size := by rw [Array.length_toList]; exact hacc.1
  have hax : acc.toList = xs.map fun x => Value.ref x.2.1 := by
    apply List.ext_getElem?
    intro j
    rcases Nat.lt_or_ge j es.size with hj | hj
    · have hj' : j < acc.toList.length := by rw [hl]; exact hj
      obtain ⟨y, e1, e2, _⟩ := hes j hj
      obtain ⟨_, e3⟩ := hacc.2 j acc.toList[j] (by rw [← Array.getElem?_toList]; exact List.getElem?_eq_getElem hj')
      rw [List.getElem?_eq_getElem hj', e3, e2, List.getElem?_map, e1]; rfl
    · rw [List.getElem?_eq_none (by rw [hl]; exact hj), List.getElem?_eq_none (by rw [List.length_map, ← hsz]; exact hj)]
  have hak : acc.toList = (kvs.map fun p => p.2.1).map Value.ref := by rw [hax, ndr_keys rel, List.map_map]; rfl
  refine wpAny_bind (wpAny_newList ?_ (by rw [hl, hsz, ← lk]; exact zl))
  have J : Inv X pins σ H { s with heap := h', toks := tk } := I.kept hk
  have ln := dps_len hdp
  have hm2 : ((kvs.map fun p => V.ref p.2.1).zip ds).map (fun b => b.2) = ds := map_snd_zip ln
  have hlz : ((kvs.map fun p => V.ref p.2.1).zip ds).length = ds.length := by rw [List.length_zip, ln]; omega
  have hmem : ∀ b ∈ (kvs.map fun p => V.ref p.2.1).zip ds, b.2 ∈ ds := fun b hb => by rw [← hm2]; exact List.mem_map.mpr ⟨b, hb, rfl⟩
  have vr : Vals (kvs.map fun p => V.ref p.2.1) acc.toList := by
    rw [hak, show (kvs.map fun p => V.ref p.2.1) = (kvs.map fun p => p.2.1).map V.ref from (List.map_map ..).symm]
    exact vals_refsN _
  obtain ⟨e1, e2⟩ := each_zip J hdp vr
  have hBn : h'.get? h'.objs.size = none := by
    cases z : h'.get? h'.objs.size with
    | none => rfl
    | some o => exact absurd (Heap.lt_size z) (Nat.lt_irrefl _)
  have hob : (h'.push { cls := .type "list", data := .seq acc.toList.toArray }).get? h'.objs.size = some (seqObj "list" acc.toList.toArray 0) := Heap.get?_push_size _ rfl
  have e3 := each_fresh (h2 := h'.push { cls := .type "list", data := .seq acc.toList.toArray }) (fun b o e => Heap.get?_push_of_some _ e) hBn e2
  refine wpAny_bind (wpAny_holding (wpAny_mono (Q := fun _ s' => ∃ x H'', Inv X pins σ H'' s' ∧ RelV x (.ref h'.objs.size) ∧ Q x H'') (list_sort_tups (bs := (kvs.map fun p => V.ref p.2.1).zip ds) (enc := fun b => b.2) hob e1 e3 (by rw [hm2]; exact ok.al) (by rw [hm2]; exact ok.tu) (by rw [hlz]; exact Nat.le_trans ok.len (by decide)) (fun b hb => ?_) fun out lo eo => ?_) (fun _ s' x => wpAny_pure ⟨_, rfl, x⟩) fun _ _ e => e))
  · have := ok.dep _ (hmem b hb)
    show X.A.in1.units + 1 + b.2.depth < cLine
    show X.A.units + 1 + 1 + b.2.depth < cLine
    omega
  · obtain ⟨ep2, he'⟩ := sortedHeap_at (out := out.toArray) hob
    have hp := List.mergeSort_perm ((kvs.map fun p => V.ref p.2.1).zip ds) (PySem.W.dataLe false fun b => b.2)
    have hlen : ((((kvs.map fun p => V.ref p.2.1).zip ds).mergeSort (PySem.W.dataLe false fun b => b.2)).map (·.1)).length ≤ sizeLine := by
      rw [List.length_map, hp.length_eq, hlz]; exact Nat.le_trans ok.len (by decide)
    have keep : ∀ b o, h'.get? b = some o → (sortedHeap (h'.push { cls := .type "list", data := .seq acc.toList.toArray }) h'.objs.size acc.toList out.toArray).get? b = some o := fun b o e => by
      have hlt := Heap.lt_size e
      rw [sortedHeap_old (Nat.ne_of_lt hlt) (by rw [PyProof.Rows.size_push']; exact Nat.lt_succ_of_lt hlt)]
      exact Heap.get?_push_of_some _ e
    refine ⟨.ref _, upd H h'.objs.size (.lst _), J.laid (t' := tk) keep (Nat.le_refl _) ⟨hlen, out, ep2, each_vals eo, he'⟩, rfl, q _ _ hp ?_ (J.hok.fresh (Nat.le_refl _))⟩
    refine (List.map_mergeSort (f := fun b : V × PyData => b.2) (r := PySem.W.dataLe false fun b => b.2) (s := PySem.W.dataLe false id) (fun a _ b _ => rfl)).trans ?_
    rw [hm2]; rfl
theorem uSortM (hc : X.calm = true) (hu : X.A.units + 64 < cLine) (hP : X.prog = P := by rfl) (hw : X.w = w := by rfl) (hK : X.K = K := by rfl) : CallR X (.builtin "sorted") (rSortM P w K) := by subst hP hw hK; exact cr_sortM hc hu
end
section
variable {P : Program} {w : World} {g : Gd} {G : List Sl} {kd : KD} {j : Nat}
/-- sorted(d) -/
theorem el_sortM (h : G[j]? = some (.ob (ndC P w g.K kd))) (ok : SoT (kd.map (·.1))) : EL g (tCB (rSortM P w g.K) (tCons (tVar j) tNil)) G (sortA (kd.map (·.1))) := fun σ F H hh Q q => by
  obtain ⟨D, kvs, eo, _, _, hH, nd⟩ := nd_own hh h
  have hd := nd_keysD nd
  refine ⟨.ref D, eo, D, kvs, kd.map (·.1), rfl, hH, fun p hp => (nd.keys p hp).mono hh.st.i.ex, hh.st.i.ex.dps _ _ hd, ok, fun zs p pm e hp => ?_⟩
  have hz := dps_of_zip (K := g.K) (F := F) (zs := zs) fun z hz => zip_dp hd z (pm.mem_iff.mp hz)
  rw [e] at hz
  exact q p _ F _ (Stp.mine hh.st.i hp) hp (hh.st.i.free hp) upd_same hz
end
end DW

/-! a module's constant tuple of texts -/
namespace DW
open PySem PySem.Spec PyProof.Rows L2
/-- what the text says of a module's name that stands for a tuple of texts -/
structure TcOk (K : PySem.W.Frag) (mg : Str → Option Value) (x : Str) (p : Addr) (ss : List Str) : Prop where
  gC : mg x = some (.ref p)
  sq : ∃ (o : Obj) (its : Array Value) (n : Nat), K.lookup p = some o ∧ o.cls = .type "tuple" ∧ o.data = .seq its n ∧ its.size ≤ sizeLine ∧ Vals (ss.map V.str) its.toList
theorem TcOk.c {K : PySem.W.Frag} {mg : Str → Option Value} {x : Str} {p : Addr} {ss : List Str} (T : TcOk K mg x p ss) : ∃ u, mg x = some u ∧ RelV (.ref p) u := ⟨_, T.gC, rfl⟩
theorem dpa_strs {K : PySem.W.Frag} {F : Hp} : ∀ ss : List Str, DpAll K F (ss.map V.str) (ss.map PyData.str)
  | [] => .nil
  | s :: ss => .cons (.str s) (dpa_strs ss)
theorem e_tc {g : Gd} {G : List Sl} {mg : Str → Option Value} {x : Str} {p : Addr} {ss : List Str} (T : TcOk g.K mg x p ss) : E g (tC (.ref p)) G (.tuple (ss.map PyData.str)) := fun _ F H hh _ q => q _ F H (Stp.refl hh.st.i) (.tup (.inr T.sq) (dpa_strs ss))
end DW

/-! xs[lo:hi:step] of a list -/
namespace DW
open PySem PySem.Spec PyProof.Rows L2
def ixA (n : Nat) (lo hi st : Option Int) : List Nat := sliceRange (sliceBounds lo hi st n).1 (sliceBounds lo hi st n).2.1 (sliceBounds lo hi st n).2.2
def pickA {α : Type} (xs : List α) (lo hi st : Option Int) : List α := (ixA xs.length lo hi st).filterMap (xs[·]?)
theorem ixA_len (n : Nat) (lo hi st : Option Int) : (ixA n lo hi st).length ≤ n := by
  refine sliceRange_length_le _ _ _ _ (fun hc => ?_) fun hc => ?_
  · simp only [sliceBounds] at hc ⊢
    simp only [hc, if_true]
    constructor
    · cases lo with
      | none => simp
      | some i => dsimp only; omega
    · cases hi with
      | none => simp
      | some i => dsimp only; omega
  · simp only [sliceBounds] at hc ⊢
    simp only [hc, if_false]
    constructor
    · cases lo with
      | none => simp
      | some i => dsimp only; omega
    · cases hi with
      | none => simp
      | some i => dsimp only; omega
theorem pickA_len {α : Type} (xs : List α) (lo hi st : Option Int) : (pickA xs lo hi st).length ≤ xs.length := Nat.le_trans (List.length_filterMap_le _ _) (ixA_len _ _ _ _)
theorem pickA_mem {α : Type} {xs : List α} {lo hi st : Option Int} {x : α} (h : x ∈ pickA xs lo hi st) : x ∈ xs := by
  obtain ⟨i, _, e⟩ := List.mem_filterMap.mp h
  exact List.mem_of_getElem? e
theorem pickA_map {α β : Type} (f : α → β) (xs : List α) (lo hi st : Option Int) : pickA (xs.map f) lo hi st = (pickA xs lo hi st).map f := by
  unfold pickA
  rw [List.length_map, List.map_filterMap]
  congr 1; funext i
  rw [List.getElem?_map]
theorem pick_vals {xs : List V} {us : List Value} (r : Vals xs us) : ∀ ix : List Nat, Vals (ix.filterMap (xs[·]?)) (ix.filterMap (us[·]?))
  | [] => .nil
  | i :: ix => by
    rw [List.filterMap_cons, List.filterMap_cons]
    cases e : xs[i]? with
    | none => rw [r.none_of e]; exact pick_vals r ix
    | some x =>
      obtain ⟨u, e2, rv⟩ := r.get e
      rw [e2]
      exact .cons rv (pick_vals r ix)
theorem pick_dps {K : PySem.W.Frag} {F : Hp} {vs : List V} {ds : List PyData} (h : DpAll K F vs ds) : ∀ ix : List Nat, DpAll K F (ix.filterMap (vs[·]?)) (ix.filterMap (ds[·]?))
  | [] => .nil
  | i :: ix => by
    rw [List.filterMap_cons, List.filterMap_cons]
    cases e : ds[i]? with
    | none =>
      have e2 : vs[i]? = none := by
        rw [List.getElem?_eq_none_iff] at e ⊢
        rw [dps_len h]; exact e
      rw [e2]; exact pick_dps h ix
    | some x =>
      obtain ⟨u, e2, rv⟩ := dps_get h e
      rw [e2]
      exact .cons rv (pick_dps h ix)
def tSl3 (K : PySem.W.Frag) (te : TE) (tl th ts : TO) : TE := fun σ H Q => te σ H fun x H1 => tl σ H1 fun lo H2 => th σ H2 fun hi H3 => ts σ H3 fun st H4 => ∃ a xs, x = .ref a ∧ SqL K H4 a xs ∧ st ≠ some 0 ∧ ∀ p, H4 p = none → Q (.ref p) (upd H4 p (.lst (pickA xs lo hi st)))
section
variable {X : Cx} {e : Expr} {te : TE} {lo hi st : Option Expr} {tl th ts : TO} {p2 p3 pos : Pos}
theorem pe_sl3 {st : Expr} (he : PE X e te) (hl : PO X lo tl) (hu : PO X hi th) (hs : PO X (some st) ts) : PE X (.Subscript e (.Slice lo hi (some st) p3) pos) (tSl3 X.K te tl th ts) := by
  refine ⟨fun pins s σ H Q I h => ?_⟩
  refine Subscript_ (thn (he.run pins s σ H _ I h) fun v s1 ⟨x, H1, I1, r1, q1⟩ => ?_)
  refine wpAny_Slice (thn (hl.run pins s1 σ H1 _ I1 q1) fun vl s2 ⟨l, H2, I2, pl, q2⟩ => thn (hu.run pins s2 σ H2 _ I2 q2) fun vu s3 ⟨u, H3, I3, pu, q3⟩ => ?_)
  refine thn (hs.run pins s3 σ H3 _ I3 q3) fun vs s4 ⟨o, H4, I4, ps, q4⟩ => ?_
  obtain ⟨a, xs, ex, hx, hne, q⟩ := q4
  subst ex
  cases r1
  have I5 : Inv X pins σ H4 { s4 with heap := s4.heap.push { cls := .type "slice", data := .fields #[vl, vu, vs] } } := I4.kept (t' := s4.toks) fun b ob q => Heap.get?_push_of_some _ q
  obtain ⟨its, r, ht, hz⟩ := I5.list hx
  have hlen := r.length
  show wpAny (model X.prog X.w) X.A (subscriptTail e (.Slice lo hi (some st) p3) (.ref a) (.ref s4.heap.objs.size)) (L2.EP X pins σ Q) X.xe { s4 with heap := s4.heap.push { cls := .type "slice", data := .fields #[vl, vu, vs] } }
  refine tail_any (ops := [.ref a, .ref s4.heap.objs.size]) ht.isList.typeIs (PySem.slot_list_getitem.lookup) ?_ (by with_unfolding_all rfl)
  refine wpAny_getItem_list_slice ht.isList (Heap.IsSliceOf.new _ vl vu vs) pl pu ps hne ?_ (by rw [List.size_toArray]; omega)
  have hp : slicePick its.toArray l u o = (pickA its l u o).toArray := by
    unfold slicePick pickA ixA
    rw [List.size_toArray]
    simp
  rw [hp]
  have rr : Vals (pickA xs l u o) (pickA its l u o) := by
    unfold pickA
    rw [hlen]
    exact pick_vals r _
  refine ⟨.ref _, _, I5.laid (t' := s4.toks) (o := .lst (pickA xs l u o)) (fun b ob q => Heap.get?_push_of_some _ q) (Nat.le_refl _) ?_, rfl, q _ (I5.hok.fresh (Nat.le_refl _))⟩
  exact ⟨Nat.le_trans (pickA_len _ _ _ _) hz, _, 0, rr, Heap.get?_push_size _ rfl⟩
theorem pe_sl3K {st : Expr} (K : PySem.W.Frag) (he : PE X e te) (hl : PO X lo tl) (hu : PO X hi th) (hs : PO X (some st) ts) (h : X.K = K := by rfl) : PE X (.Subscript e (.Slice lo hi (some st) p3) pos) (tSl3 K te tl th ts) := h ▸ pe_sl3 he hl hu hs
end
theorem el_sl3 {g : Gd} {G : List Sl} {te : TE} {ds : List PyData} {tl th ts : TO} {lo hi : Option Int} {st : Int} (h : E g te G (.list ds)) (hl : O g tl G lo) (hu : O g th G hi) (hs : O g ts G (some st)) (ne : st ≠ 0) : EL g (tSl3 g.K te tl th ts) G (pickA ds lo hi (some st)) := fun σ F H hh Q q =>
  h σ F H hh _ fun v F1 H1 s1 d1 => hl σ F1 H1 (hh.mono s1) _ fun F2 H2 s2 => hu σ F2 H2 ((hh.mono s1).mono s2) _ fun F3 H3 s3 => hs σ F3 H3 (((hh.mono s1).mono s2).mono s3) _ fun F4 H4 s4 => by
    obtain ⟨a, vs, rfl, h1, h2⟩ := dp_sq (s4.f.dp _ v (s3.f.dp _ v (s2.f.dp _ v d1)))
    have ss := ((s1.trans s2).trans s3).trans s4
    refine ⟨a, vs, rfl, s4.i.ex.l h1, fun z => ne (Option.some.inj z), fun p hp => q p _ F4 _ (ss.trans (Stp.mine s4.i hp)) (old_free ss hp) (s4.i.free hp) upd_same ?_⟩
    unfold pickA
    rw [dps_len h2]
    exact pick_dps h2 _
end DW
namespace DW
open PySem PySem.Spec PyProof.Rows L2
theorem mulW_i {g : Gd} {a b : Int} (h : CMulW a b) : R g (rI CMulW fun i j => .int (i * j)) (.int a) (.int b) (.int (a * b)) := fun u v F H e hu hv Q q => by
  cases hu; cases hv
  exact ⟨a, b, rfl, rfl, h, q _ F H (Stp.refl e) (.int _)⟩
end DW

/-! comprehensions over a list of things of any kind, told by an injective coding -/
namespace DW
open PySem PySem.Spec PyProof.Rows L2
section
variable {g : Gd} {G : List Sl} {wi : TI} {tg : TG} {tt : TT} {te : TE} {vs ix : List Nat} {α : Type}
theorem fm_enc {enc : α → PyData} {f : PyData → Option PyData} {q : α → Bool} {h : α → PyData} : ∀ {S : List α}, (∀ x ∈ S, f (enc x) = if q x = true then some (h x) else none) → (S.map enc).filterMap f = (S.filter q).map h
  | [], _ => rfl
  | x :: S, e => by
    rw [List.map_cons, List.filterMap_cons, e x List.mem_cons_self, List.filter_cons]
    have ih := fm_enc (S := S) fun y hy => e y (List.mem_cons_of_mem _ hy)
    cases hq : q x with
    | true => rw [if_pos rfl, if_pos rfl, List.map_cons, ← ih]
    | false => rw [if_neg (by decide), if_neg (by decide), ← ih]
theorem dec_of (enc : α → PyData) (inj : ∀ x y, enc x = enc y → x = y) (x0 : α) : ∃ dec : PyData → α, ∀ x, dec (enc x) = x := by
  classical
  refine ⟨fun d => if h : ∃ x, enc x = d then h.choose else x0, fun x => ?_⟩
  have h : ∃ y, enc y = enc x := ⟨x, rfl⟩
  show (if h : ∃ y, enc y = enc x then h.choose else x0) = x
  rw [dif_pos h]
  exact inj _ _ h.choose_spec
theorem el_mapI (enc : α → PyData) (inj : ∀ x y, enc x = enc y → x = y) (S : List α) (q : α → Bool) (h : α → PyData) (G1 : α → List Sl) (it : IT g wi G (S.map enc)) (hz : S.length ≤ 40000)
    (tgt : ∀ F1, ∀ x ∈ S, Tg { g with Fl := F1 } tg (enc x) (wipeG G vs) (G1 x) ix) (hix : ∀ j ∈ ix, j ∈ vs)
    (ht : ∀ F1, ∀ x ∈ S, T { g with Fl := F1 } tt (G1 x) (q x)) (he : ∀ F1, ∀ x ∈ S, q x = true → E { g with Fl := F1 } te (G1 x) (h x)) : EL g (tLc wi tg tt te vs) G ((S.filter q).map h) := by
  cases S with
  | nil => exact el_lc (ix := ix) (fun _ => none) (fun _ => G) it (by simp) (fun F1 d hd => by cases hd) hix (fun F1 d hd => by cases hd) fun F1 d hd => by cases hd
  | cons x0 S0 =>
    obtain ⟨dec, hdec⟩ := dec_of enc inj x0
    let f : PyData → Option PyData := fun d => if q (dec d) = true then some (h (dec d)) else none
    have ef : ((x0 :: S0).map enc).filterMap f = ((x0 :: S0).filter q).map h := fm_enc fun x _ => by show (if q (dec (enc x)) = true then some (h (dec (enc x))) else none) = _; rw [hdec]
    rw [← ef]
    refine el_lc (ix := ix) f (fun d => G1 (dec d)) it (by rw [List.length_map]; exact hz) (fun F1 d hd => ?_) hix (fun F1 d hd => ?_) fun F1 d hd y hy => ?_
    · obtain ⟨x, hx, rfl⟩ := List.mem_map.mp hd
      rw [hdec]; exact tgt F1 x hx
    · obtain ⟨x, hx, rfl⟩ := List.mem_map.mp hd
      have := ht F1 x hx
      show DW.T _ _ (G1 (dec (enc x))) (if q (dec (enc x)) = true then some (h (dec (enc x))) else none).isSome
      rw [hdec]
      cases hq : q x with
      | true => rw [hq] at this; rw [if_pos rfl]; exact this
      | false => rw [hq] at this; rw [if_neg (by decide)]; exact this
    · obtain ⟨x, hx, rfl⟩ := List.mem_map.mp hd
      have hy : (if q (dec (enc x)) = true then some (h (dec (enc x))) else none) = some y := hy
      rw [hdec] at hy ⊢
      by_cases hq : q x = true
      · rw [if_pos hq] at hy; cases hy; exact he F1 x hx hq
      · rw [if_neg hq] at hy; cases hy
/-- .. without a test -/
theorem el_mapA (enc : α → PyData) (inj : ∀ x y, enc x = enc y → x = y) (S : List α) (h : α → PyData) (G1 : α → List Sl) (it : IT g wi G (S.map enc)) (hz : S.length ≤ 40000)
    (tgt : ∀ F1, ∀ x ∈ S, Tg { g with Fl := F1 } tg (enc x) (wipeG G vs) (G1 x) ix) (hix : ∀ j ∈ ix, j ∈ vs)
    (he : ∀ F1, ∀ x ∈ S, E { g with Fl := F1 } te (G1 x) (h x)) : EL g (tLc wi tg tYes te vs) G (S.map h) := by
  have e : (S.filter fun _ => true).map h = S.map h := by rw [List.filter_eq_self.mpr fun _ _ => rfl]
  rw [← e]
  exact el_mapI (ix := ix) enc inj S (fun _ => true) h G1 it hz tgt hix (fun F1 x hx => t_yes) fun F1 x hx _ => he F1 x hx
end
end DW

/-! any/all over things told by an injective coding; the end of a recursion that gives a new list -/
namespace DW
open PySem PySem.Spec PyProof.Rows L2 GA
section
variable {P : Program} {w : World} {K : PySem.W.Frag} {mg : Str → Option Value} {base : Heap} {x qual : Str} {st : Stmt} {f : Addr} {fd : FuncData} {Nn ps : List Str} {k : Nat} {Tb : List Addr}
theorem df_noL (F : Fun K x qual st f fd) (hm : mg x = some (.ref f)) (hb : Binds K fd ps []) {R : List PyData → List PyData → Prop} (no : ∀ ds d, ¬ R ds d) : Df P w K mg base k x ps (spL K Tb R) :=
  ⟨f, fd, ⟨fun vs H Q E h => by obtain ⟨_, _, _, _, _, _, r, _⟩ := h; exact absurd r (no _ _), fun A outer s H args us vs Q E _ _ _ _ h => by obtain ⟨_, _, _, _, _, _, r, _⟩ := h; exact absurd r (no _ _)⟩, hm, F.kp, hb⟩
theorem df_noA (F : Fun K x qual st f fd) (hm : mg x = some (.ref f)) (hb : Binds K fd ps []) {Ad : List PyData → Prop} {R : List PyData → PyData → Prop} (no : ∀ ds, ¬ Ad ds) : Df P w K mg base k x ps (spA K Tb Ad R) :=
  ⟨f, fd, ⟨fun vs H Q E h => by obtain ⟨_, _, _, _, _, r, _⟩ := h; exact absurd r (no _), fun A outer s H args us vs Q E _ _ _ _ h => by obtain ⟨_, _, _, _, _, r, _⟩ := h; exact absurd r (no _)⟩, hm, F.kp, hb⟩
end
section
variable {g : Gd} {G : List Sl} {te : TE} {tg : TG} {ix : List Nat} {α : Type}
theorem e_quantI {P : Addr} (hP : P ∈ g.T) {wi : TI} {vs : List Nat} {e : Bool} (enc : α → PyData) (inj : ∀ x y, enc x = enc y → x = y) (S : List α) (q : α → Bool) (G1 : α → List Sl) (it : IT g wi G (S.map enc))
    (tgt : ∀ F1, ∀ x ∈ S, Tg { g with Fl := F1 } tg (enc x) (wipeG G vs) (G1 x) ix) (hix : ∀ j ∈ ix, j ∈ vs) (he : ∀ F1, ∀ x ∈ S, E { g with Fl := F1 } te (G1 x) (.bool (q x))) :
    ∃ f : PyData → Bool, (∀ x ∈ S, f (enc x) = q x) ∧ E g (tQuant P e wi tg te vs) G (.bool (quantF e f (S.map enc))) := by
  cases S with
  | nil => exact ⟨fun _ => true, (fun x h => by cases h), e_quant (ix := ix) hP (fun _ => true) (fun _ => G) it (fun F1 d hd => by cases hd) hix fun F1 d hd => by cases hd⟩
  | cons x0 S0 =>
    obtain ⟨dec, hdec⟩ := dec_of enc inj x0
    refine ⟨fun d => q (dec d), fun x _ => by show q (dec (enc x)) = _; rw [hdec], e_quant (ix := ix) hP (fun d => q (dec d)) (fun d => G1 (dec d)) it (fun F1 d hd => ?_) hix fun F1 d hd => ?_⟩
    · obtain ⟨x, hx, rfl⟩ := List.mem_map.mp hd
      rw [hdec]; exact tgt F1 x hx
    · obtain ⟨x, hx, rfl⟩ := List.mem_map.mp hd
      rw [hdec]; exact he F1 x hx
theorem any_enc {enc : α → PyData} {f : PyData → Bool} {q : α → Bool} : ∀ {S : List α}, (∀ x ∈ S, f (enc x) = q x) → (S.map enc).any f = S.any q
  | [], _ => rfl
  | x :: S, h => by rw [List.map_cons, List.any_cons, List.any_cons, h x List.mem_cons_self, any_enc fun y hy => h y (List.mem_cons_of_mem _ hy)]
theorem all_enc {enc : α → PyData} {f : PyData → Bool} {q : α → Bool} : ∀ {S : List α}, (∀ x ∈ S, f (enc x) = q x) → (S.map enc).all f = S.all q
  | [], _ => rfl
  | x :: S, h => by rw [List.map_cons, List.all_cons, List.all_cons, h x List.mem_cons_self, all_enc fun y hy => h y (List.mem_cons_of_mem _ hy)]
theorem e_anyI {P : Addr} (hP : P ∈ g.T) {wi : TI} {vs : List Nat} (enc : α → PyData) (inj : ∀ x y, enc x = enc y → x = y) (S : List α) (q : α → Bool) (G1 : α → List Sl) (it : IT g wi G (S.map enc))
    (tgt : ∀ F1, ∀ x ∈ S, Tg { g with Fl := F1 } tg (enc x) (wipeG G vs) (G1 x) ix) (hix : ∀ j ∈ ix, j ∈ vs) (he : ∀ F1, ∀ x ∈ S, E { g with Fl := F1 } te (G1 x) (.bool (q x))) :
    E g (tQuant P true wi tg te vs) G (.bool (S.any q)) := by
  obtain ⟨f, hf, h⟩ := e_quantI (e := true) hP enc inj S q G1 it tgt hix he
  rw [quant_any, any_enc hf] at h
  exact h
theorem e_allI {P : Addr} (hP : P ∈ g.T) {wi : TI} {vs : List Nat} (enc : α → PyData) (inj : ∀ x y, enc x = enc y → x = y) (S : List α) (q : α → Bool) (G1 : α → List Sl) (it : IT g wi G (S.map enc))
    (tgt : ∀ F1, ∀ x ∈ S, Tg { g with Fl := F1 } tg (enc x) (wipeG G vs) (G1 x) ix) (hix : ∀ j ∈ ix, j ∈ vs) (he : ∀ F1, ∀ x ∈ S, E { g with Fl := F1 } te (G1 x) (.bool (q x))) :
    E g (tQuant P false wi tg te vs) G (.bool (S.all q)) := by
  obtain ⟨f, hf, h⟩ := e_quantI (e := false) hP enc inj S q G1 it tgt hix he
  rw [quant_all, all_enc hf] at h
  exact h
end
end DW

/-! a, b, c = x, y, z -/
namespace DW
open PySem PySem.Spec PyProof.Rows L2
section
variable {g : Gd} {G : List Sl} {ta : TA} {tw : TS} {x y z : PyData} {i j l : Nat} {D : Ends}
theorem s_par3 (h : A g ta G [x, y, z]) (k : N g D.nx (((G.set i (.fz x)).set j (.fz y)).set l (.fz z))) : S g (tPar3 i j l ta) D G := fun σ F H hh => h σ F H hh _ fun vs F1 H1 s1 d1 => by
  cases d1 with
  | cons h1 t1 => cases t1 with
    | cons h2 t2 => cases t2 with
      | cons h3 t3 =>
        cases t3
        exact ⟨_, _, _, rfl, k _ F1 H1 ((((hh.mono s1).setF h1).setF h2).setF h3)⟩
theorem q_par3 (h : A g ta G [x, y, z]) (k : S g tw D (((G.set i (.fz x)).set j (.fz y)).set l (.fz z))) : S g (tSeq (tPar3 i j l ta) tw) D G := s_par3 (D := { D with nx := tw D }) h k
end
end DW

/-! range(i, j, c) as a value: len, walks over it -/
namespace DW
open PySem PySem.Spec PyProof.Rows L2
def RgO (a : Addr) (i j c : Int) : HO := .ext fun h => ∃ t u v, IsRange h a i j c t u v
def rRng3 : List V → Hp → VK → Prop := fun vs H Q => ∃ i j c : Int, vs = [V.int i, V.int j, V.int c] ∧ c ≠ 0 ∧ c.natAbs < 1073741824 ∧ ∀ p, H p = none → Q (.ref p) (upd H p (RgO p i j c))
theorem cr_rng3 {X : Cx} : CallR X (.type "range") rRng3 := by
  intro pins s σ H vs us Q I r h
  obtain ⟨i, j, c, rfl, c0, c1, q⟩ := h
  cases r with
  | cons r1 rr => cases rr with
    | cons r2 rr => cases rr with
      | cons r3 rr =>
        cases rr
        obtain ⟨t, rfl⟩ := r1
        obtain ⟨t', rfl⟩ := r2
        obtain ⟨t'', rfl⟩ := r3
        refine call_range_3 c0 ⟨.ref s.heap.objs.size, upd H s.heap.objs.size (RgO s.heap.objs.size i j c), I.laid (t' := s.toks) (fun b o e => Heap.get?_push_of_some _ e) (Nat.le_refl _) ?_, rfl, q _ (I.hok.fresh (Nat.le_refl _))⟩ (.inl (PyProof.noPylong_small c1))
        refine ⟨⟨t, t', t'', Heap.get?_push_size _ rfl⟩, ⟨_, Heap.get?_push_size _ rfl⟩, fun h1 h2 ⟨a, b, d, p⟩ k => ⟨a, b, d, k _ p⟩⟩
def rLenRg : List V → Hp → VK → Prop := fun vs H Q => ∃ (a : Addr) (i j c : Int) (n : Nat), vs = [V.ref a] ∧ H a = some (RgO a i j c) ∧ Builtin.Range.rangeSize i j c = n ∧ n < 100000000 ∧ Q (.int n) H
theorem cr_lenRg {X : Cx} : CallR X (.builtin "len") rLenRg := by
  intro pins s σ H vs us Q I r h
  obtain ⟨a, i, j, c, n, rfl, ha, hn, hz, q⟩ := h
  obtain ⟨t, u, v, hr⟩ := (I.hok a _ ha).1
  rw [Vals.ref1 r]
  exact call_len_range hr hn (by omega) ⟨.int n, H, I.tok _, ⟨_, rfl⟩, q⟩
def iRgV (te : TE) : TI := fun σ H R => te σ H fun x H1 => ∃ (a : Addr) (i j c : Int) (n : Nat), x = .ref a ∧ H1 a = some (RgO a i j c) ∧ RgC i j c n ∧ R (Itc i c n) H1
theorem pi_rgV {X : Cx} {tg l : Expr} {tl : TE} (hl : PE X l tl) : PI X tg l (iRgV tl) := by
  refine ⟨fun pins s σ H R I h => ?_⟩
  refine thn (hl.run pins s σ H _ I h) fun v s1 ⟨x, H1, I1, r1, q1⟩ => ?_
  obtain ⟨a, i, j, k, n, e, ha, ⟨c0, c1, c2, c3⟩, q⟩ := q1
  subst e
  cases r1
  obtain ⟨t, u, w, hr⟩ := (I1.hok a _ ha).1
  refine wpAny_pyIter_range hr c2 ?_
  refine pi_one (tk := s1.toks) I1 _ (turn_rangeC _ i k n) ?_ q
  have e1 : i + ((0 : Nat) : Int) * k = i := by simp
  have e2 : (n : Int) - ((0 : Nat) : Int) = Builtin.Range.rangeSize i j k := by rw [c3]; simp
  show IsRangeIter _ _ (i + ((0 : Nat) : Int) * k) ((n : Int) - ((0 : Nat) : Int)) k
  rw [e1, e2]
  exact Heap.get?_push_size _ rfl
def rgS (i j c : Int) : Addr → Hp → HO → Prop := fun a _ u => u = RgO a i j c
theorem RgO_nt {a : Addr} {i j c : Int} : ∀ ps, RgO a i j c ≠ .tbl ps := fun _ z => by unfold RgO at z; cases z
section
variable {g : Gd} {G : List Sl} {ta : TA} {tw : TS} {i : Nat} {D : Ends} {lo hi c : Int} {n : Nat}
theorem s_asgRg (h : A g ta G [.int lo, .int hi, .int c]) (c0 : c ≠ 0) (c1 : c.natAbs < 1073741824) (k : N g D.nx (G.set i (.ob (rgS lo hi c)))) : S g (tAsg (tCB rRng3 ta) (gName i)) D G := fun σ F H hh => h σ F H hh _ fun vs F1 H1 s1 d1 => by
  cases d1 with
  | cons a t => cases t with
    | cons b t => cases t with
      | cons d t =>
        cases t; cases a; cases b; cases d
        refine ⟨lo, hi, c, rfl, c0, c1, fun p hp => k _ F1 _ (((hh.mono s1).mono (Stp.mine s1.i hp)).set (s := .ob (rgS lo hi c)) ⟨p, _, rfl, old_free (hh.st.trans s1) hp, s1.i.free hp, upd_same, RgO_nt, fun _ _ => rfl⟩ fun _ j t _ e1 m e2 => new_ok (hh.mono s1) hp j ⟨t, e1, m⟩ e2)⟩
theorem q_asgRg (h : A g ta G [.int lo, .int hi, .int c]) (c0 : c ≠ 0) (c1 : c.natAbs < 1073741824) (k : S g tw D (G.set i (.ob (rgS lo hi c)))) : S g (tSeq (tAsg (tCB rRng3 ta) (gName i)) tw) D G := s_asgRg (D := { D with nx := tw D }) h c0 c1 k
theorem e_lenRg (h : G[i]? = some (.ob (rgS lo hi c))) (hn : Builtin.Range.rangeSize lo hi c = n) (hz : n < 100000000) : E g (tCB rLenRg (tCons (tVar i) tNil)) G (.int n) := fun σ F H hh Q q => by
  obtain ⟨o, e, p, u, rfl, _, _, hH, _, hC⟩ := hh.at_ h
  have hC := hC F (Ex.refl F)
  exact ⟨.ref p, e, p, lo, hi, c, n, rfl, by rw [hH, hC], hn, hz, q _ F H (Stp.refl hh.st.i) (.int _)⟩
theorem it_rgV (h : G[i]? = some (.ob (rgS lo hi c))) (hr : RgC lo hi c n) : IT g (iRgV (tVar i)) G (rngC lo c n) := fun σ F H hh R r => by
  obtain ⟨o, e, p, u, rfl, _, _, hH, _, hC⟩ := hh.at_ h
  have hC := hC F (Ex.refl F)
  refine ⟨.ref p, e, p, lo, hi, c, n, rfl, by rw [hH, hC], hr, r _ F H (Stp.refl hh.st.i) ⟨fun i F H _ _ hi => by rw [rngC_len] at hi; exact hi, fun F H _ _ => by rw [rngC_len]; exact Nat.le_refl _, fun i F H x H' d _ sb hd hy => ?_⟩⟩
  obtain ⟨hlt, rfl⟩ := rngC_get hd
  obtain ⟨rfl, rfl⟩ := hy
  exact ⟨F, Stp.refl sb, .int _⟩
end
end DW

/-! sorted(set(xs)), xs a list of texts -/
namespace DW
open PySem PySem.Spec PyProof.Rows L2
theorem perm_sub : ∀ {l m : List Str}, l.Nodup → (∀ k ∈ l, k ∈ m) → m.length ≤ l.length → l.Perm m
  | [], [], _, _, _ => .nil
  | [], _ :: _, _, _, h => by cases h
  | a :: l, m, nd, hs, hl => by
    obtain ⟨h1, h2⟩ := List.nodup_cons.mp nd
    have ha := hs a List.mem_cons_self
    have p := List.perm_cons_erase ha
    have ln := p.length_eq
    rw [List.length_cons] at ln hl
    refine (List.Perm.cons a (perm_sub h2 (fun k hk => ?_) (by omega))).trans p.symm
    exact (List.mem_erase_of_ne (fun e : k = a => h1 (by rw [← e]; exact hk))).mpr (hs k (List.mem_cons_of_mem _ hk))
/-- the set of the texts l at a -/
def TxS (P : Program) (w : World) (h : Heap) (a : Addr) (l : List Str) : Prop := ∃ D : Froz.SD, h.get? a = some (Froz.sObj "set" D) ∧ Froz.TxOk P w D l ∧ Ris D.2.2.place.toList ∧ (w.params.followText "set-order" = true ∨ D.2.2.led = true) ∧ l.Nodup
theorem tail_ris {ep : Nat} {es : Array (Int × Value)} {t : SetTable} {b : Bool} (r : Ris t.place.toList) : Ris (Froz.tailTx ep es t b).2.2.place.toList := by
  unfold Froz.tailTx
  split
  · exact relayAll_ris _ _ _
  · exact r
theorem tail_led {ep : Nat} {es : Array (Int × Value)} {t : SetTable} {b : Bool} : (Froz.tailTx ep es t b).2.2.led = t.led := by
  unfold Froz.tailTx
  split
  · exact relayAll_led _ _ _
  · rfl
theorem add_ris {h : Int} {v : Value} {D : Froz.SD} (r : Ris D.2.2.place.toList) : Ris (Froz.addTx h v D).2.2.place.toList := by
  unfold Froz.addTx
  refine tail_ris ?_
  split
  · exact layNew_ris _ _ _ _ r
  · exact layNew_ris _ _ _ _ r
theorem add_led {h : Int} {v : Value} {D : Froz.SD} : (Froz.addTx h v D).2.2.led = D.2.2.led := by
  unfold Froz.addTx
  rw [tail_led]
  split
  · exact layNew_led _ _ _ _
  · exact layNew_led _ _ _ _
section
variable {P : Program} {w : World} {A : Around} {E : Value → Shared → Prop} {s : Shared} {h h' : Heap} {a : Addr} {l : List Str}
theorem TxS.at (R : TxS P w h a l) (k : ∀ o, h.get? a = some o → h'.get? a = some o) : TxS P w h' a l := by
  obtain ⟨D, ho, r⟩ := R
  exact ⟨D, k _ ho, r⟩
theorem txs_new (ho : h.get? a = some (setNew w)) : TxS P w h a [] := by
  refine ⟨(#[], 0, .fresh 0 0 (!w.params.followText "set-order")), ho, Froz.TxOk.nil (by rfl), List.Pairwise.nil, ?_, List.nodup_nil⟩
  show _ ∨ (!w.params.followText "set-order") = true
  cases w.params.followText "set-order"
  · exact .inr rfl
  · exact .inl rfl
/-- a text is added, whether it stands there or not -/
theorem txs_add {k : Str} {tk : Tok} {Q : Bool → Shared → Prop} (R : TxS P w s.heap a l) (room : l.length + 1 < scanBound)
    (hQ : ∀ b h', Heap.SameBut a s.heap h' → TxS P w h' a (if k ∈ l then l else k :: l) → Q b { s with heap := h' }) : wpAny (model P w) A (setAddHashed a (.str k tk) (hashStr w k)) Q E s := by
  by_cases hk : k ∈ l
  · have R0 := R
    obtain ⟨⟨es, ep, t⟩, ho, F, r, hl, nd⟩ := R
    have hel : ElemsOf (PySem.strKind P w) es.toList := F.el
    have hf : t.fits es.size = true := F.fit
    have hsz : es.size = l.length := F.sz
    obtain ⟨e, he, z⟩ := (F.mem k).mp hk
    have some : ∃ j, List.findIdx? (fun e => (PySem.strKind P w).is k e.2) es.toList = some j := by
      cases q : List.findIdx? (fun e => (PySem.strKind P w).is k e.2) es.toList with
      | some j => exact ⟨j, rfl⟩
      | none =>
        have := List.findIdx?_eq_none_iff.mp q e he
        rw [z] at this; cases this
    obtain ⟨j, hj⟩ := some
    unfold setAddHashed setAddHashedIn
    refine wpAny_holding (wpAny_bind (wpAny_setState_of ho rfl hf ?_))
    dsimp only
    rw [byScan_of (x := Value.str k tk) rfl (by omega) hel]
    simp only [↓reduceIte]
    unfold setAddByScan
    refine wpAny_bind ?_
    refine wpAny_bind (wpAny_rule ?_)
    refine wpAny_bind (wpAny_setScan_of (knd := PySem.strKind P w) (k := k) (Froz.is_str k tk) ho rfl hf hel ?_)
    rw [hj]
    dsimp only
    refine wpAny_pure (wpAny_pure ?_)
    exact hQ _ s.heap (Heap.SameBut.refl a s.heap) (by rw [if_pos hk]; exact R0)
  · obtain ⟨D, ho, F, r, hl, nd⟩ := R
    refine Froz.add_x ho F hk room (hQ _ _ (Heap.SameBut.update s.heap a _) ?_)
    rw [if_neg hk]
    exact ⟨_, Froz.get_upd _ ho rfl, Froz.add_ok tk F, add_ris r, by rw [add_led]; exact hl, List.nodup_cons.mpr ⟨hk, nd⟩⟩
theorem txs_update {I : Addr} {fp wr : List Addr} {G : Array GenState → Array GenState → Prop} {n : Nat} {Pv : Nat → Value → Prop} {St : Nat → Shared → Prop} {R : Result → Shared → Prop}
    (W : WalksS P w A.in1 I fp wr G n Pv St) (S : Addr) (hSf : S ∉ fp) (ns : List Str) (hn : n = ns.length) (hb : ns.length + 1 < scanBound) (hval : ∀ i v, Pv i v → ∃ k t, ns[i]? = some k ∧ v = .str k t) :
    ∀ (m i : Nat) (s : Shared) (l : List Str), n - i = m → i ≤ n → St i s → l.length ≤ i → (∀ k, k ∈ l ↔ k ∈ ns.take i) → TxS P w s.heap S l →
      (∀ s' l', Moved (S :: wr) G s s' → l'.length ≤ n → (∀ k, k ∈ l' ↔ k ∈ ns) → TxS P w s'.heap S l' → R (.ok (.ret .none)) s') →
      codeAny (model P w) A (.builtin "set.update.loop" ⟨[.ref S, .ref I], []⟩) R s := by
  have hSw : S ∉ wr := fun h => hSf (W.sub _ h)
  have hsub : ∀ b ∈ wr, b ∈ S :: wr := fun b hb => List.mem_cons_of_mem _ hb
  intro m
  induction m with
  | zero =>
    intro i s l hm hi hst hc mem hS hR
    have hin : i = n := by omega
    subst hin
    refine codeAny_builtin F.entry_set_update_loop ?_
    rw [Around.under_plainId F.plain_set_update_loop _]
    show wpAny _ A.in1 (pyNext (.ref I) >>= _) _ _ s
    refine wpAny_bind (W.done s _ _ hst fun s' hm => ?_)
    show wpAny _ A.in1 (ret Value.none) _ _ s'
    rw [List.take_of_length_le (by omega)] at mem
    exact wpAny_pure (hR s' l (hm.mono hsub) hc mem (hS.at fun o e => hm.heap S o hSw e))
  | succ m ih =>
    intro i s l hm hi hst hc mem hS hR
    have hlt : i < n := by omega
    refine codeAny_builtin F.entry_set_update_loop ?_
    rw [Around.under_plainId F.plain_set_update_loop _]
    show wpAny _ A.in1 (pyNext (.ref I) >>= _) _ _ s
    refine wpAny_bind (W.item i s _ _ hlt hst fun v s' hP hst' hm => ?_)
    obtain ⟨z, t, hz, rfl⟩ := hval i v hP
    have hS' : TxS P w s'.heap S l := hS.at fun o e => hm.heap S o hSw e
    show wpAny _ A.in1 (holding [Value.str z t] (setAdd S (.str z t)) >>= _) _ _ s'
    refine wpAny_bind (wpAny_holding ?_)
    unfold setAdd
    refine wpAny_holding ?_
    refine wpAny_bind ((PySem.strKind P w).pyHash (k := z) (Froz.is_str z t) ?_)
    refine txs_add (s := { s' with toks := s'.toks + 1 }) hS' (by omega) fun _ h' hsb hS2 => ?_
    have mem2 : ∀ k, k ∈ (if z ∈ l then l else z :: l) ↔ k ∈ ns.take (i + 1) := fun k => by
      rw [List.take_add_one, hz, List.mem_append]
      show _ ↔ k ∈ ns.take i ∨ k ∈ [z]
      rw [List.mem_singleton]
      split
      · rename_i hzl
        rw [← mem k]
        exact ⟨.inl, fun h => h.elim id fun e => e ▸ hzl⟩
      · rw [List.mem_cons, ← mem k]
        exact ⟨fun h => h.elim .inr .inl, fun h => h.elim .inr .inl⟩
    have hc3 : (if z ∈ l then l else z :: l).length ≤ i + 1 := by
      split
      · omega
      · rw [List.length_cons]; omega
    refine wpAny_pure ⟨plainId_quiet F.plain_set_update_loop _, ih (i + 1) _ _ (by omega) hlt (W.frame _ s' _ _ hst' (Nat.le_succ _) fun b hb o e => ?_) hc3 mem2 hS2 fun s'' l2 hm'' hc'' mem'' hS'' => ?_⟩
    · rw [hsb.2 b (fun h : b = S => hSf (by rw [← h]; exact hb))]; exact e
    · refine hR s'' l2 (Moved.trans W.gtrans ((hm.mono hsub).then_heap (Nat.le_succ _) fun b o hb e => ?_) hm'') hc'' mem'' hS''
      rw [hsb.2 b (fun h : b = S => hb (by rw [h]; exact List.mem_cons_self))]; exact e
end
section
variable {P : Program} {w : World} {A : Around} {E : Value → Shared → Prop} {s : Shared}
/-- set(a list of texts) -/
theorem call_setT {l : Addr} {xs : Array Value} (ks : List Str) {Q : Value → Shared → Prop} (calm : A.handled = none) (lsh : s.heap.IsList l xs) (hin : StrsAre xs.toList ks) (hfw : ks.length + 1 < scanBound)
    (fin : ∀ (h' : Heap) (tk : Nat) (m : List Str), TxS P w h' s.heap.objs.size m → (∀ k, k ∈ m ↔ k ∈ ks) → m.length ≤ ks.length → (∀ b o, s.heap.get? b = some o → h'.get? b = some o) → Q (.ref s.heap.objs.size) { s with heap := h', toks := tk }) :
    wpAny (model P w) A (call (.type "set") [.ref l]) Q E s := by
  have lenx : xs.size = ks.length := by rw [← Array.length_toList]; exact StrsAre.length hin
  obtain ⟨_, _, _⟩ := PySem.F.called_set.mro
  have made := PySem.F.called_set.made
  have sub := PySem.F.called_set.sub
  apply wpAny_call
  apply codeAny_of_tree
  show wpAny _ _ (callAny (.type "set") _) _ _ _
  apply wpAny_pure
  refine ⟨Code.quiet_builtin _ (by decide +kernel), codeAny_builtin PySem.F.entry_type_call ?_⟩
  rw [Around.under_plain (weight_type_call_type "set" [.ref l] []) rfl]
  have t1 := PySem.F.called_set.notType
  have t2 := PySem.F.called_set.canCreate
  have t3 := PySem.F.typeCall_set_1 (.ref l)
  repeat (any_goals (first | assumption | wp_step))
  have nb : ∀ b o, s.heap.get? b = some o → b < s.heap.objs.size := fun b o e => Heap.lt_size e
  refine codeAny_mono (code_set_led1 (.ref l) (E := E) (Q₁ := fun v s1 => v = .ref s.heap.objs.size ∧ s1 = { s with heap := s.heap.push (setNew w) }) ⟨rfl, rfl⟩) fun r1 s1 hr1 => ?_
  rcases r1 with ex | fl
  · exact hr1
  rcases fl with _ | v | _ | _
  all_goals try exact hr1.elim
  obtain ⟨rfl, rfl⟩ := hr1
  have at0 : (s.heap.push (setNew w)).get? s.heap.objs.size = some (setNew w) := Heap.get?_push_size _ rfl
  have ty0 : Shared.TypeIs { s with heap := s.heap.push (setNew w) } (.ref s.heap.objs.size) "set" := ⟨_, at0, rfl⟩
  have u1 := PySem.F.called_set.init.lookup
  have u2 := PySem.F.called_set.init.bind (.ref s.heap.objs.size)
  repeat (any_goals (first | assumption | wp_step))
  refine codeAny_mono (codeAny_call_builtin (R := wants (fun v s2 => v = .none ∧ ∃ h' tk m, s2 = { s with heap := h', toks := tk } ∧ TxS P w h' s.heap.objs.size m ∧ (∀ k, k ∈ m ↔ k ∈ ks) ∧ m.length ≤ ks.length ∧ (∀ b o, s.heap.get? b = some o → h'.get? b = some o)) E)
    PySem.F.called_set.init.plain PySem.F.entry_set_init (check_set_init_1 ty0 ?_)) fun r2 s2 hr2 => ?_
  · obtain ⟨lo, lat, lc, ln, ld⟩ := lsh
    obtain ⟨k1, k2, k3, k4⟩ := lo
    have lc : k1 = .type "list" := lc
    have ld : k3 = .seq xs ln := ld
    subst lc ld
    have lat1 : (s.heap.push (setNew w)).get? l = some { cls := .type "list", dict := k2, data := .seq xs ln, slots := k4 } := Heap.get?_push_of_some _ lat
    have v1 := PySem.F.sub_list_set
    have v2 := PySem.F.sub_list_frozenset
    have v3 : (Value.type "list" == Value.type "dict") = false := by decide
    have lst1 : (s.heap.push (setNew w)).IsList l xs := ⟨_, lat1, rfl, ln, rfl⟩
    unfold Builtin.«set.__init__» noKeywords Builtin.Frozenset.updateFrom
    generalize iterate : pyIter = pit
    wp_walk
    subst iterate
    apply wpAny_pyIter_list lst1
    apply wpAny_bind
    apply wpAny_runValue
    have ll : l < s.heap.objs.size := nb _ _ lat
    have cl3 : A.in1.in1.in1.handled = none := by simp [calm]
    have sz : (s.heap.push (setNew w)).objs.size = s.heap.objs.size + 1 := Heap.size_push ..
    have ll' : (l : Nat) < s.heap.objs.size + 1 := Nat.lt_succ_of_lt ll
    have off : s.heap.objs.size ∉ [(s.heap.push (setNew w)).objs.size, l] := fun z => by
      rw [sz] at z
      rcases List.mem_cons.mp z with e | z
      · exact absurd e (by simp)
      · exact Nat.lt_irrefl _ ((List.mem_singleton.mp z) ▸ ll)
    have vals : ∀ (i : Nat) (v : Value), xs[i]? = some v → ∃ k t, ks[i]? = some k ∧ v = .str k t := fun i v e => by
      have hi : i < ks.length := by rw [← lenx]; exact (Array.getElem?_eq_some_iff.mp e).1
      obtain ⟨t, q⟩ := _root_.SS.strs_at hin i v (by rw [Array.getElem?_toList]; exact e)
      refine ⟨ks[i], t, List.getElem?_eq_getElem hi, ?_⟩
      rw [q, List.getD_eq_getElem?_getD, List.getElem?_eq_getElem hi] <;> rfl
    refine txs_update ((Walks.list cl3 _ l (by rw [sz]; exact Nat.ne_of_lt ll') xs).toS) s.heap.objs.size off ks lenx hfw vals (xs.size - 0) 0 _ [] (by omega) (Nat.zero_le _) ⟨⟨_, Heap.get?_push_size _ rfl, rfl, rfl⟩, (lst1.push _)⟩ (Nat.zero_le _) (fun k => by simp) ?start ?stop
    case start => exact txs_new (Heap.get?_push_of_some _ at0)
    case stop =>
      intro s3 c3 mv le mem R3
      have e3 := Moved.eq_with mv
      show wpAny _ _ _ _ _ _
      apply wpAny_pure
      show wpAny _ _ (ret Value.none) _ _ _
      rw [lenx] at le
      refine wpAny_pure ⟨rfl, s3.heap, s3.toks, c3, e3, R3, mem, le, fun b o e => ?_⟩
      have hb := nb b o e
      refine mv.heap b o (fun z => ?_) (Heap.get?_push_of_some _ (Heap.get?_push_of_some _ e))
      rcases List.mem_cons.mp z with q | z
      · exact Nat.lt_irrefl _ (q ▸ hb)
      · have := List.mem_singleton.mp z; rw [sz] at this; exact Nat.lt_irrefl _ (Nat.lt_of_lt_of_le (this ▸ hb) (Nat.le_succ _))
  · rcases r2 with ex | fl
    · exact hr2
    rcases fl with _ | v | _ | _
    all_goals try exact hr2.elim
    obtain ⟨rfl, h', tk, m, rfl, R2, mem, le, kp⟩ := hr2
    repeat (any_goals (first | assumption | wp_step))
    exact fin _ _ _ R2 mem le kp
/-- sorted(a set of texts) -/
theorem sorted_txs {a : Addr} {l : List Str} {Q : Value → Shared → Prop} (R : TxS P w s.heap a l) (hh : A.handled = none) (h64 : l.length < 64)
    (hQ : ∀ s' p (out : Array Value) (c : Nat) (ns : List Str), (∀ b o, s.heap.get? b = some o → s'.heap.get? b = some o) → s'.gens = s.gens → s'.os = s.os → s.heap.objs.size ≤ p →
      s'.heap.get? p = some (seqObj "list" out c) → StrsAre out.toList ns → sortedS ns = true → ns.Perm l → Q (.ref p) s') :
    wpAny (model P w) A (call (.builtin "sorted") [.ref a]) Q E s := by
  obtain ⟨⟨es, ep, t⟩, ho, F, r, hl, nd⟩ := R
  have hsz : es.size = l.length := F.sz
  have hf : t.fits es.size = true := F.fit
  have hel : ElemsOf (PySem.strKind P w) es.toList := F.el
  have mem : ∀ k : Str, k ∈ l ↔ ∃ e ∈ es.toList, (PySem.strKind P w).is k e.2 = true := F.mem
  refine Calls.call_function_entry kind_sorted plain_sorted entry_sorted (args_sorted1 _) ?_
  unfold Builtin.«sorted»
  refine wpAny_bind (m := checkCount "sorted" 1 1 _) (wpAny_pure ?_)
  refine wpAny_bind (collect_set (A := A.in1) hh ⟨_, ho, rfl, rfl⟩ hf (by show es.size < scanBound; unfold scanBound; omega) r hl fun s1 vs k1 hz g1 o1 pm => ?_)
  have hvl : vs.length = l.length := by rw [pm.length_eq, List.length_map, Array.length_toList]; exact hsz
  have st : ∀ e ∈ es.toList, ∃ x tk, e.2 = Value.str x tk := fun e he => by
    obtain ⟨⟨k, h1, _⟩, _⟩ := hel e he
    obtain ⟨tk, e1⟩ := Value.isStrOf_shape (x := k) (v := e.2) h1
    exact ⟨k, tk, e1⟩
  have sv : ∀ v ∈ vs, ∃ x tk, v = Value.str x tk := fun v hv => by
    obtain ⟨e, he, q⟩ := List.mem_map.mp (pm.mem_iff.mp hv)
    obtain ⟨x, tk, e1⟩ := st e he
    exact ⟨x, tk, by rw [← q]; exact e1⟩
  have hI : StrsAre vs (vs.map strOf) := strsAre_map vs sv
  have memv : ∀ k : Str, k ∈ vs.map strOf ↔ k ∈ l := fun k => by
    rw [mem k, List.mem_map]
    constructor
    · rintro ⟨v, hv, rfl⟩
      obtain ⟨e, he, q⟩ := List.mem_map.mp (pm.mem_iff.mp hv)
      obtain ⟨x, tk, e1⟩ := st e he
      refine ⟨e, he, ?_⟩
      rw [← q, e1]
      exact Froz.is_str x tk
    · rintro ⟨e, he, z⟩
      obtain ⟨tk, e1⟩ := Value.isStrOf_shape (x := k) (v := e.2) z
      refine ⟨e.2, pm.mem_iff.mpr (List.mem_map.mpr ⟨e, he, rfl⟩), ?_⟩
      rw [e1]; rfl
  have pl : (vs.map strOf).Perm l := (perm_sub nd (fun k hk => (memv k).mpr hk) (by rw [List.length_map]; omega)).symm
  refine wpAny_bind (wpAny_newList ?_ (by rw [hvl, sizeLine_eq]; omega))
  have hoL : (s1.heap.push (seqObj "list" vs.toArray 0)).get? s1.heap.objs.size = some (seqObj "list" vs.toArray 0) := Heap.get?_push_size _ rfl
  refine wpAny_bind (wpAny_holding (wpAny_call_entry slot_list_sort ⟨_, hoL, rfl⟩ entry_list_sort (list_sort_treeK PyProof.Rows.strKind_oneLt hoL hI.keysOf (fun v₁ v₂ rest e => keyKind_strs (by rw [← e]; exact hI)) (by rw [hvl]; exact h64) fun st' hp hs => ⟨_, rfl, ?_⟩) (args_list_sort _)))
  obtain ⟨ns', a1, a2, a3⟩ := sorted_out_str hI hp hs
  obtain ⟨c, hc⟩ := sortedHeap_at (vs := vs) (out := (arrOf st').map (·.2)) hoL
  refine wpAny_pure ⟨_, rfl, hQ _ s1.heap.objs.size _ c ns' (fun b u e => ?_) g1 o1 hz hc a1 a3 (a2.trans pl)⟩
  have q := k1 b u e
  have hlt := Heap.lt_size q
  show (sortedHeap (s1.heap.push (seqObj "list" vs.toArray 0)) s1.heap.objs.size vs _).get? b = some u
  rw [sortedHeap_old (Nat.ne_of_lt hlt) (by rw [size_push']; exact Nat.lt_succ_of_lt hlt)]
  exact Heap.get?_push_of_some _ q
end
def SetXO (P : Program) (w : World) (a : Addr) (ks : List Str) : HO := .ext fun h => ∃ l, TxS P w h a l ∧ (∀ k, k ∈ l ↔ k ∈ ks) ∧ l.length ≤ ks.length
theorem strs_vals : ∀ {ks : List Str} {us : List Value}, Vals (ks.map V.str) us → StrsAre us ks
  | [], _, .nil => .nil
  | n :: ks, _, .cons r t => by
    obtain ⟨tk, rfl⟩ := r
    exact .cons n tk (strs_vals t)
theorem vals_strs : ∀ {ks : List Str} {us : List Value}, StrsAre us ks → Vals (ks.map V.str) us
  | _, _, .nil => .nil
  | _, _, .cons n tk t => .cons ⟨tk, rfl⟩ (vals_strs t)
/-- set(xs) -/
def rSetX (K : PySem.W.Frag) (P : Program) (w : World) : List V → Hp → VK → Prop := fun vs H Q => ∃ (l : Addr) (ks : List Str), vs = [V.ref l] ∧ SqL K H l (ks.map V.str) ∧ ks.length < 1000 ∧ ∀ a, H a = none → Q (.ref a) (upd H a (SetXO P w a ks))
theorem cr_setX {X : Cx} (hc : X.calm = true) : CallR X (.type "set") (rSetX X.K X.prog X.w) := by
  intro pins s σ H vs us Q I r h
  obtain ⟨l, ks, rfl, hl, hk, q⟩ := h
  rw [Vals.ref1 r]
  obtain ⟨its, rv, pl, hz⟩ := I.list hl
  refine call_setT (P := X.prog) (w := X.w) ks (I.ok.hd hc) pl.isList (strs_vals (by simpa using rv)) (by unfold scanBound; omega) fun h' tk m R mem le kp => ?_
  have ob : ObjOk X.prog X.w (upd H s.heap.objs.size (SetXO X.prog X.w s.heap.objs.size ks)) h' s.heap.objs.size (SetXO X.prog X.w s.heap.objs.size ks) := by
    have ⟨D, ho, _⟩ := R
    exact ⟨⟨m, R, mem, le⟩, ⟨_, ho⟩, fun h1 h2 ⟨m', p, a, b⟩ k => ⟨m', p.at k, a, b⟩⟩
  exact ⟨.ref s.heap.objs.size, upd H s.heap.objs.size (SetXO X.prog X.w s.heap.objs.size ks), I.laid (t' := tk) kp (Nat.le_refl _) ob, rfl, q _ (I.hok.fresh (Nat.le_refl _))⟩
/-- sorted(set) -/
def rSortSX (P : Program) (w : World) : List V → Hp → VK → Prop := fun vs H Q => ∃ (a : Addr) (ks : List Str), vs = [V.ref a] ∧ H a = some (SetXO P w a ks) ∧ ks.length < 64 ∧ ∀ (ms l : List Str) (p : Addr), sortedS ms = true → ms.Perm l → l.Nodup → (∀ k, k ∈ l ↔ k ∈ ks) → H p = none → Q (.ref p) (upd H p (.lst (ms.map V.str)))
theorem cr_sortSX {X : Cx} (hc : X.calm = true) : CallR X (.builtin "sorted") (rSortSX X.prog X.w) := by
  intro pins s σ H vs us Q I r h
  obtain ⟨a, ks, rfl, ha, hk, q⟩ := h
  obtain ⟨l, R, mem, le⟩ := (I.hok a _ ha).1
  have nd : l.Nodup := by
    obtain ⟨D, _, _, _, _, nd⟩ := R
    exact nd
  rw [Vals.ref1 r]
  refine sorted_txs R (I.ok.hd hc) (by omega) fun s' p out cc ms kp g o hp hg hi srt pm => ?_
  have hlen : (ms.map V.str).length ≤ sizeLine := by
    rw [List.length_map, sizeLine_eq]
    have := pm.length_eq
    omega
  have hn : H p = none := I.hok.fresh hp
  have J : Inv X pins σ (upd H p (.lst (ms.map V.str))) { s with heap := s'.heap, gens := s'.gens, drawn := s'.drawn, toks := s'.toks } :=
    I.call (ch := []) (Un.laid kp hp hn) (I.hok.laid kp hp ⟨hlen, out.toList, cc, vals_strs hi, hg⟩) (by rw [g]; exact I.bare) (fun _ z => nomatch z)
  have e : s' = { s with heap := s'.heap, gens := s'.gens, drawn := s'.drawn, toks := s'.toks } := by
    cases s'
    cases s
    cases o
    rfl
  rw [e]
  exact ⟨.ref p, _, J, rfl, q ms l p srt pm nd mem hn⟩
theorem uSetX {X : Cx} (K : PySem.W.Frag) (P : Program) (w : World) (hc : X.calm = true) (hK : X.K = K := by rfl) (hP : X.prog = P := by rfl) (hw : X.w = w := by rfl) : CallR X (.type "set") (rSetX K P w) := by subst hK hP hw; exact cr_setX hc
theorem uSortSX {X : Cx} (P : Program) (w : World) (hc : X.calm = true) (hP : X.prog = P := by rfl) (hw : X.w = w := by rfl) : CallR X (.builtin "sorted") (rSortSX P w) := by subst hP hw; exact cr_sortSX hc
theorem dps_ofs {K : PySem.W.Frag} {F : Hp} : ∀ (ks : List Str), DpAll K F (ks.map V.str) (ks.map .str)
  | [] => .nil
  | k :: ks => .cons (.str k) (dps_ofs ks)
/-- sorted(set(xs)): the members of xs, each once, in order -/
theorem el_sortSetX {P : Program} {w : World} {g : Gd} {G : List Sl} {te : TE} {ks u : List Str} (hb0 : B g te G (.list (ks.map .str))) (hk : ks.length < 64) (nd : u.Nodup) (mem : ∀ k, k ∈ u ↔ k ∈ ks) :
    EL g (tCB (rSortSX P w) (tCons (tCB (rSetX g.K P w) (tCons te tNil)) tNil)) G ((sortS u).map .str) := fun σ F H hh Q q => hb0 σ F H hh _ fun v F1 H1 s1 d1 => by
  obtain ⟨a, vs, rfl, h1, h2⟩ := dp_sq d1
  have e := dps_vstrs h2
  subst e
  refine ⟨a, ks, rfl, h1, by omega, fun b hb => ?_⟩
  have st := s1.trans (Stp.mine (o := SetXO P w b ks) s1.i hb)
  refine ⟨b, ks, rfl, upd_same, hk, fun ms l p srt pm nd' mem' hp => ?_⟩
  have pu : l.Perm u := (List.perm_ext_iff_of_nodup nd' nd).mpr fun k => by rw [mem', mem]
  have em : ms = sortS u := sortS_uniq (pm.trans pu) srt
  subst em
  exact q p _ F1 _ (st.trans (Stp.mine st.i hp)) (old_free st hp) (st.i.free hp) upd_same (dps_ofs _)
end DW

/-! d.get(k, x) of a written dict; xs[i:] = [..] -/
namespace DW
open PySem PySem.Spec PyProof.Rows L2
/-- p is a written dict with text keys -/
def KdO (K : PySem.W.Frag) (w : World) (p : Addr) : Prop := ∃ es n, K.lookup p = some ⟨.type "dict", none, .dict es n, #[]⟩ ∧ PySem.W.KeysLit w.params es.toList ∧ (p == sysModules) = false
def tKGet2 (K : PySem.W.Frag) (w : World) (td ty tx : TE) : TE := fun σ H Q => td σ H fun x H1 => ∃ p, x = .ref p ∧ KdO K w p ∧ ty σ H1 fun y H2 => tx σ H2 fun z H3 => ∃ k, y = .str k ∧ ((∃ u v, PySem.W.nsIn K p k = some (some u) ∧ RelV v u ∧ Q v H3) ∨ (PySem.W.nsIn K p k = some none ∧ Q z H3))
theorem pe_kget2 {X : Cx} {o e f : Expr} {apos cpos : Pos} {td ty tx : TE} (ho : PE X o td) (he : PE X e ty) (hf : PE X f tx) (m : M2 X o "get" apos e f cpos) : PE X (.Call (.Attribute o "get" apos) [e, f] [] cpos) (tKGet2 X.K X.w td ty tx) := by
  refine ⟨fun pins s σ H Q I h => ?_⟩
  refine wpAny_Call_method m.base m.few m.line PySem.F.plainAttrs_dict PySem.F.slot_dict_get PySem.F.type_dict_get (thn (ho.run pins s σ H _ I h) fun u s1 ⟨x, H1, I1, rx, p, ex, ⟨es, n, hl, hk, low⟩, q1⟩ => ?_)
  subst ex
  obtain rfl : u = Value.ref p := rx
  have hm := PySem.W.mapOf_K (prog := X.prog) (w := X.w) I1.kIn hl hk
  refine ⟨hm.typeIs, fun b q => ?_, ?_⟩
  · cases q
    exact ⟨_, I1.kIn _ _ hl, rfl⟩
  rw [m.trees]
  refine Calls.callWith_builtin rfl (Calls.evalArgs_plain (Calls.spliced_cons (thn (he.run pins s1 σ H1 _ I1 q1) fun iv s2 ⟨y, H2, I2, ry, q2⟩ =>
    Calls.spliced_cons (thn (hf.run pins s2 σ H2 _ I2 q2) fun fv s3 ⟨z, H3, I3, rz, k, ey, q3⟩ => Calls.spliced_nil ?_))))
  subst ey
  obtain ⟨t, rfl⟩ : ∃ t, iv = Value.str k t := ry
  have hm3 := PySem.W.mapOf_K (prog := X.prog) (w := X.w) I3.kIn hl hk
  refine call_meetsIn PySem.F.slot_dict_get hm3.typeIs PySem.F.entry_dict_get (PySem.F.args_dict_get_3 _ _ _) (meets_dict_get_default (PySem.strKind X.prog X.w) p (strKind_is X.prog X.w k t) low fv) ⟨_, hm3, ?_⟩
  rcases q3 with ⟨u0, v0, e0, r0, q⟩ | ⟨e0, q⟩
  · rw [PySem.W.find_K hl e0]
    exact ⟨v0, H3, I3.tok _, r0, q⟩
  · rw [PySem.W.find_K hl e0]
    exact ⟨z, H3, I3.tok _, rz, q⟩
section
variable {prog : Program} {w : World} {A : Around} {E : Value → Shared → Prop} {s : Shared}
theorem bounds_tail {a n : Nat} (ha : a ≤ n) : sliceBounds (some (a : Int)) none none n = ((a : Int), (n : Int), 1) := by
  simp only [sliceBounds, Option.getD_none]
  have h1 : ¬ ((a : Int) < 0) := by omega
  simp only [h1, if_false, show (1 : Int) > 0 by decide, if_true]
  congr 1
  omega
/-- the tail of a list is laid anew -/
theorem setItem_tail {l b sl : Addr} {items new : Array Value} {n n2 : Nat} {vl : Value} {a : Nat} {Q : Unit → Shared → Prop}
    (e : s.heap.get? l = some { cls := .type "list", data := .seq items n }) (e2 : s.heap.get? b = some { cls := .type "list", data := .seq new n2 }) (hne : l ≠ b)
    (hs : s.heap.IsSliceOf sl vl .none .none) (pl : IsPart vl (some (a : Int))) (ha : a ≤ items.size)
    (hsz : items.size + new.size ≤ sizeLine) (h : Q () { s with heap := s.heap.update l (Obj.mapSeq fun xs => xs.extract 0 a ++ new ++ xs.extract items.size xs.size) }) :
    wpAny (model prog w) A (setItem (.ref l) (.ref sl) (.ref b)) Q E s := by
  have il : s.heap.IsList l items := PySem.IsL.isList e
  have ib : s.heap.IsList b new := PySem.IsL.isList e2
  obtain ⟨os, o1, o2, o3⟩ := id hs
  have ts : s.TypeIs (.ref sl) "slice" := ⟨os, o1, o2⟩
  have apart : Builtin.List.listSameRef (.ref l) (.ref b) = false := by
    unfold Builtin.List.listSameRef
    exact beq_eq_false_iff_ne.mpr hne
  have one : ¬ ((rawPart none == rawInt 0) = true) := Bool.false_ne_true
  have top : (max (a : Int) (items.size : Int)).toNat = items.size := by omega
  have fits : ((fun xs : Array Value => xs.extract 0 a ++ new ++ xs.extract items.size xs.size) items).size ≤ sizeLine + 1 := by
    simp only [Array.size_append, Array.size_extract]
    omega
  unfold setItem
  try with_reducible refine wpAny_holding ?_
  first | refine wpAny_bind (wpAny_pure ?_) | skip
  refine wpAny_bind (wpAny_sequenceKey il.typeIs (by decide) ?_)
  refine wpAny_bind (wpAny_callSpecial?_slot (name := Str.ofString "__setitem__") il.typeIs slot_list_setitem (wpAny_call_entry slot_list_setitem il.typeIs entry_list_setitem ?_ (args_list_setitem _ _ _)))
  show wpAny _ _ (Builtin.List.listSubscript? (.ref sl) >>= _) _ _ s
  refine wpAny_bind ?_
  unfold Builtin.List.listSubscript?
  refine wpAny_bind (wpAny_specialOf ts slice_no_index ?_)
  simp only [Option.isNone_none, if_true]
  refine wpAny_pure ?_
  show wpAny _ _ (typeOf (.ref sl) >>= _) _ _ s
  refine wpAny_bind (wpAny_typeOf ts ?_)
  first
    | rw [if_neg (by decide)]
    | refine PySem.W.KFB.if_not (by decide) ?_
  rw [listSliceParts_eq]
  refine wpAny_bind (wpAny_bind (wpAny_field o1 o3 (x := .none) rfl (wpAny_bind (wpAny_listPart .none ?_))))
  rw [if_neg one]
  refine wpAny_bind (wpAny_field o1 o3 (x := vl) rfl (wpAny_bind (wpAny_listPart pl ?_)))
  refine wpAny_bind (wpAny_field o1 o3 (x := .none) rfl (wpAny_bind (wpAny_listPart .none (wpAny_pure ?_))))
  first
    | simp only [apart, Bool.false_eq_true, if_false]
    | refine PySem.W.KFB.if_not apart ?_
    | (dsimp only
       rw [if_neg (by rw [apart]; exact Bool.false_ne_true)])
  refine wpAny_bind (m := Builtin.List.listAllItems (.ref b) "must assign iterable to extended slice") ?_
  unfold Builtin.List.listAllItems
  refine wpAny_bind (wpAny_typeOf ib.typeIs ?_)
  first
    | refine PySem.W.KFB.if_so (by decide) ?_
    | rw [if_pos (by decide)]
    | simp only [beq_self_eq_true, Bool.true_or, if_true]
  unfold Builtin.List.listItems
  refine wpAny_bind (wpAny_seqItems e2 rfl (wpAny_pure ?_))
  refine wpAny_bind (wpAny_bind (wpAny_seqItems e rfl (wpAny_pure ?_)))
  refine wpAny_bind (wpAny_of_eq ((sliceIndices_raw (some (a : Int)) none none items.size (by simp)).trans (congrArg (pure : Int × Int × Int → Sem (Int × Int × Int)) (bounds_tail ha))) ?_)
  show wpAny _ _ (if ((1 : Int) == 1) = true then _ else _) _ _ s
  rw [if_pos (by decide)]
  refine wpAny_bind (wpAny_rule ?_)
  first
    | simp only [notLongL hsz, Bool.false_eq_true, if_false]
    | refine PySem.W.KFB.if_not (notLongL hsz) ?_
  first | refine wpAny_bind (wpAny_pure ?_) | skip
  show wpAny _ _ (updateSeq l (fun xs => xs.extract 0 ((a : Int)).toNat ++ new ++ xs.extract (max (a : Int) (items.size : Int)).toNat xs.size) >>= _) _ _ s
  rw [top, Int.toNat_natCast]
  refine wpAny_bind (wpAny_updateSeq (hz := Nat.le_trans (Nat.le_add_right _ _) hsz) (_hz' := fits) e rfl ?_)
  refine wpAny_bind (wpAny_letGo ?_)
  first
    | exact wpAny_bind (wpAny_pure (wpAny_pure ⟨.none, rfl, wpAny_pure h⟩))
    | exact wpAny_pure ⟨.none, rfl, wpAny_pure h⟩
end
/-- o[i:] = v -/
def gTail (to : TE) (tl : TO) : TG := fun v σ H Q => to σ H fun x H1 => tl σ H1 fun o H2 => ∃ (l b : Addr) (xs ys : List V) (i : Int), x = .ref l ∧ o = some i ∧ v = .ref b ∧ H2 l = some (.lst xs) ∧ H2 b = some (.lst ys) ∧ l ≠ b ∧ 0 ≤ i ∧ i ≤ xs.length ∧ xs.length + ys.length ≤ sizeLine ∧ Q σ (upd H2 l (.lst (xs.take i.toNat ++ ys)))
theorem pg_tail {X : Cx} {o : Expr} {lo : Option Expr} {to : TE} {tl : TO} {p2 pos : Pos} (ho : PE X o to) (hl : PO X lo tl)
    (ha : ∀ v, assign (.Subscript o (.Slice lo none none p2) pos) X.env v = (do
      let ov ← holding [v] (eval o X.env)
      let iv ← holding [v, ov] (eval (.Slice lo none none p2) X.env)
      standAt pos
      holding [v, ov, iv] (setItem ov iv v)
      release [iv, v, ov] []) := by intro _; rfl) : PG X (.Subscript o (.Slice lo none none p2) pos) (gTail to tl) := by
  refine ⟨fun pins s σ H v u Q I r h => ?_⟩
  rw [ha]
  refine wpAny_bind (wpAny_holding (thn (ho.run pins s σ H _ I h) fun ov s1 ⟨x, H1, I1, r1, q1⟩ => ?_))
  refine wpAny_bind (wpAny_holding ?_)
  refine wpAny_Slice (thn (hl.run pins s1 σ H1 _ I1 q1) fun vl s2 ⟨lo', H2, I2, pl, q2⟩ => thn (po_none.run pins s2 σ H2 (fun o H' => o = none ∧ H' = H2) I2 ⟨rfl, rfl⟩) fun vu s3 ⟨uo, H3, I3, pu, eu, eH⟩ => ?_)
  subst eu eH
  cases pu
  rw [evalPart_none]
  refine wpAny_pure ?_
  obtain ⟨l, b, xs, ys, i, ex, eo, ev, hH, hB, hne, h0, hi, hz, q⟩ := q2
  subst ex eo ev
  cases r
  obtain rfl : ov = Value.ref l := r1
  have I4 : Inv X pins σ H3 { s3 with heap := s3.heap.push { cls := .type "slice", data := .fields #[vl, .none, .none] } } := I3.kept (t' := s3.toks) fun b ob q => Heap.get?_push_of_some _ q
  obtain ⟨z, its, n, r, hl, e⟩ := I4.lstM hH
  obtain ⟨z2, its2, n2, r2, hl2, e2⟩ := I4.lstM hB
  obtain ⟨a, rfl⟩ := Int.eq_ofNat_of_zero_le h0
  simp only [Int.toNat_natCast] at q
  refine wpAny_bind (wpAny_standAt (wpAny_bind (wpAny_holding ?_)))
  refine setItem_tail (s := { s3 with heap := s3.heap.push { cls := .type "slice", data := .fields #[vl, .none, .none] } }) (a := a) e e2 hne (Heap.IsSliceOf.new ..) pl (by rw [List.size_toArray]; omega) (by rw [List.size_toArray, List.size_toArray]; omega) (wpAny_release ⟨σ, _, ?_, q⟩)
  refine I4.lset (its' := its.take a ++ its2) (t' := s3.toks) hH e ?_ (Vals.append (r.take _) r2) ?_
  · show its.toArray.extract 0 a ++ its2.toArray ++ its.toArray.extract its.toArray.size its.toArray.size = (its.take a ++ its2).toArray
    rw [splice_eq, List.size_toArray, List.drop_length, List.append_nil]
  · rw [List.length_append, List.length_take]; omega
section
variable {w : World} {g : Gd} {G : List Sl} {te tl tk tx te1 te2 te3 : TE} {tw : TS} {d x d1 d2 d3 : PyData} {ds es : List PyData} {i : Nat} {k : Int} {D : Ends}
/-- a written dict's value, or the other one -/
theorem e_kget {p : Addr} {s : Str} (kd : KdO g.K w p) (h : E g tk G (.str s)) (hx : E g tx G x) (hv : (∃ (t : Tok) (n : Int), PySem.W.nsIn g.K p s = some (some (.int n t)) ∧ d = .int n) ∨ (PySem.W.nsIn g.K p s = some none ∧ d = x)) : E g (tKGet2 g.K w (tC (.ref p)) tk tx) G d := fun σ F H hh Q q =>
  ⟨p, rfl, kd, h σ F H hh _ fun v F1 H1 s1 c1 => hx σ F1 H1 (hh.mono s1) _ fun z F2 H2 s2 c2 => by
    cases c1
    refine ⟨s, rfl, ?_⟩
    rcases hv with ⟨t, n, e, rfl⟩ | ⟨e, rfl⟩
    · exact .inl ⟨_, .int n, e, ⟨t, rfl⟩, q _ F2 H2 (s1.trans s2) (.int n)⟩
    · exact .inr ⟨e, q _ F2 H2 (s1.trans s2) c2⟩⟩
/-- xs[lo:hi], xs ours -/
theorem el_slO {to tp : TO} {lo hi : Option Int} (h : G[i]? = some (.ow ds)) (hl : O g to G lo) (hu : O g tp G hi) : EL g (tSl (rSlU g.K) (tVar i) to tp) G (cutD ds lo hi) := fun σ F H hh Q q => by
  obtain ⟨o, e, p, vs, ev, h0, hF, hH, hd⟩ := hh.at_ h
  subst ev
  refine ⟨.ref p, e, hl σ F H hh _ fun F2 H2 s2 => hu σ F2 H2 (hh.mono s2) _ fun F3 H3 s3 => ?_⟩
  have ss := s2.trans s3
  exact .inl ⟨p, vs, rfl, .inl (.inl (ss.h.lst hH)), fun b hb => q b _ F3 _ (ss.trans (Stp.mine ((hh.mono ss).st.i) hb)) (old_free ss hb) ((hh.mono ss).st.i.free hb) upd_same (cut_dps (ss.f.dps ds vs hd))⟩
/-- xs[k:] = ys -/
theorem s_tail (h : G[i]? = some (.ow ds)) (he : EL g te G es) (hl : E g tl G (.int k)) (h0 : 0 ≤ k) (hk : k ≤ ds.length) (hz : ds.length + es.length ≤ 100000) (kk : N g D.nx (G.set i (.ow (ds.take k.toNat ++ es)))) : S g (tAsg te (gTail (tVar i) (tPart tl))) D G := fun σ F H hh => he σ F H hh _ fun b ws F1 H1 s1 hb hFb hHb d1 => by
  obtain ⟨o, e, p, vs, ev, h00, hF, hH, hd⟩ := hh.at_ h
  subst ev
  refine ⟨.ref p, e, hl σ F1 H1 (hh.mono s1) _ fun v F2 H2 s2 d2 => ?_⟩
  cases d2
  have ss := s1.trans s2
  have ne : p ≠ b := fun z => by rw [z, hb] at hH; cases hH
  have lv := dps_len hd
  have lw := dps_len d1
  refine ⟨k, rfl, p, b, vs, ws, k, rfl, rfl, rfl, ss.h.lst hH, s2.h.lst hHb, ne, h0, by omega, Nat.le_trans (by omega : _ ≤ 100000) (by decide), ?_⟩
  exact kk σ F2 _ (own_set hh h e h00 hF hH ss (dps_app (dps_take _ (ss.f.dps ds vs hd)) (s2.f.dps es ws d1)))
theorem q_tail (h : G[i]? = some (.ow ds)) (he : EL g te G es) (hl : E g tl G (.int k)) (h0 : 0 ≤ k) (hk : k ≤ ds.length) (hz : ds.length + es.length ≤ 100000) (kk : S g tw D (G.set i (.ow (ds.take k.toNat ++ es)))) : S g (tSeq (tAsg te (gTail (tVar i) (tPart tl))) tw) D G := s_tail (D := { D with nx := tw D }) h he hl h0 hk hz kk
/-- xs.pop(k), the answer dropped -/
theorem s_popAt (h : G[i]? = some (.ow ds)) (he : E g te G (.int k)) (h0 : 0 ≤ k) (hk : k < ds.length) (hz : ds.length ≤ 100000) (kk : N g D.nx (G.set i (.ow (ds.eraseIdx k.toNat)))) : S g (tDrop (tBM g.K "list" rPopAt (tVar i) (tCons te tNil))) D G := fun σ F H hh => by
  obtain ⟨o, e, p, vs, ev, h00, hF, hH, hd⟩ := hh.at_ h
  subst ev
  refine ⟨.ref p, e, .inl ⟨rfl, vs, .inl (.inl hH)⟩, he σ F H hh _ fun v F1 H1 s1 c1 => ?_⟩
  cases c1
  have lv := dps_len hd
  have hk2 : k.toNat < vs.length := by omega
  refine ⟨p, vs, k, k.toNat, vs[k.toNat], rfl, rfl, s1.h.lst hH, by omega, by omega, ?_, List.getElem?_eq_getElem hk2, kk σ F1 _ (own_set hh h e h00 hF hH s1 ?_)⟩
  · show (if (decide (0 ≤ (if k < 0 then k + (vs.length : Int) else k)) && decide ((if k < 0 then k + (vs.length : Int) else k) < vs.length)) = true then some (if k < 0 then k + (vs.length : Int) else k).toNat else none) = _
    rw [if_neg (show ¬ (k < 0) by omega), decide_eq_true h0, decide_eq_true (show k < (vs.length : Int) by omega)]; rfl
  · rw [List.eraseIdx_eq_take_drop_succ, List.eraseIdx_eq_take_drop_succ]
    exact dps_app (dps_take _ (s1.f.dps ds vs hd)) (dps_drop _ (s1.f.dps ds vs hd))
/-- xs.append((a, b, c, xs.pop())) -/
theorem s_appPop3 (h : G[i]? = some (.ow (ds ++ [d]))) (h1 : E g te1 G d1) (h2 : E g te2 G d2) (h3 : E g te3 G d3) (hz : ds.length < 100000) (kk : N g D.nx (G.set i (.ow (ds ++ [.tuple [d1, d2, d3, d]])))) :
    S g (tDrop (tBM g.K "list" rAppend (tVar i) (tCons (tTup (tCons te1 (tCons te2 (tCons te3 (tCons (tBM0 g.K "list" rPop (tVar i)) tNil))))) tNil))) D G := fun σ F H hh => by
  obtain ⟨o, e, p, vs, ev, h0, hF, hH, hd⟩ := hh.at_ h
  subst ev
  refine ⟨.ref p, e, .inl ⟨rfl, vs, .inl (.inl hH)⟩, h1 σ F H hh _ fun v1 F1 H1 s1 c1 => h2 σ F1 H1 (hh.mono s1) _ fun v2 F2 H2 s2 c2 => h3 σ F2 H2 ((hh.mono s1).mono s2) _ fun v3 F3 H3 s3 c3 => ?_⟩
  have ss := (s1.trans s2).trans s3
  obtain ⟨v, e1, e2, e3⟩ := dps_last (ss.f.dps _ vs hd)
  have hH3 := ss.h.lst hH
  have hh4 := own_set hh h e h0 hF hH ss e3
  refine ⟨.ref p, e, .inl ⟨rfl, vs, .inl (.inl hH3)⟩, p, vs, v, rfl, rfl, hH3, e1, ?_⟩
  refine ⟨by show 4 ≤ sizeLine; decide, fun q hq => ?_⟩
  have st := Stp.new (o := .tup [v1, v2, v3, v]) hh4.st.i hq fun _ z => by cases z
  have hi : i < G.length := (List.getElem?_eq_some_iff.mp h).1
  have c4 : DpAll g.K F3 [v1, v2, v3, v] [d1, d2, d3, d] := .cons ((s2.trans s3).f.dp _ v1 c1) (.cons (s3.f.dp _ v2 c2) (.cons c3 (.cons e2 .nil)))
  have lv := dps_len e3
  refine ⟨p, vs.dropLast, .ref q, rfl, rfl, st.h.lst upd_same, Nat.lt_of_lt_of_le (by rw [lv]; exact hz) (by decide), ?_⟩
  have fin := own_set hh4 (List.getElem?_set_self hi) e h0 (ss.n p _ hH hF) upd_same st (dps_app (st.f.dps ds _ e3) (.cons (.tup (.inl (.inl upd_same)) (st.f.dps _ _ c4)) .nil))
  rw [List.set_set] at fin
  exact kk σ _ _ fin
end
end DW

/-! arguments that are no data: objects of own classes, functions; answers that are objects -/
namespace DW
open PySem PySem.Spec PyProof.Rows L2
/-- the object at a: its class C, its fields by data -/
def ObF (K : PySem.W.Frag) (F : Hp) (a C : Addr) (fs : List (Str × PyData)) : Prop := ∃ dx ws, F a = some (.ins C dx ws) ∧ F dx = some (.own a) ∧ FsOk K F ws fs
theorem ObF.mono {K : PySem.W.Frag} {F F' : Hp} {a C : Addr} {fs : List (Str × PyData)} (h : ObF K F a C fs) (e : Ex F F') : ObF K F' a C fs := by
  obtain ⟨dx, ws, h1, h2, h3⟩ := h
  exact ⟨dx, ws, e a _ h1 (fun _ z => by cases z), e dx _ h2 (fun _ z => by cases z), h3.mono e⟩
/-- values by slots -/
inductive ByS (K : PySem.W.Frag) (F : Hp) : List V → List Sl → Prop where
  | nil : ByS K F [] []
  | fz {v : V} {d : PyData} {vs : List V} {Gs : List Sl} (h : Dp K F v d) (t : ByS K F vs Gs) : ByS K F (v :: vs) (.fz d :: Gs)
  | raw {v : V} {vs : List V} {Gs : List Sl} (t : ByS K F vs Gs) : ByS K F (v :: vs) (.raw v :: Gs)
theorem ByS.len {K : PySem.W.Frag} {F : Hp} : ∀ {vs : List V} {Gs : List Sl}, ByS K F vs Gs → vs.length = Gs.length
  | _, _, .nil => rfl
  | _, _, .fz _ t => by rw [List.length_cons, List.length_cons, t.len]
  | _, _, .raw t => by rw [List.length_cons, List.length_cons, t.len]
theorem ByS.mono {K : PySem.W.Frag} {F F' : Hp} (e : Ex F F') : ∀ {vs : List V} {Gs : List Sl}, ByS K F vs Gs → ByS K F' vs Gs
  | _, _, .nil => .nil
  | _, _, .fz h t => .fz (e.dp _ _ h) (t.mono e)
  | _, _, .raw t => .raw (t.mono e)
theorem ByS.get {K : PySem.W.Frag} {H0 F H : Hp} : ∀ {vs : List V} {Gs : List Sl} {j : Nat} {s : Sl}, ByS K F vs Gs → Gs[j]? = some s → s.mine = false ∧ ∃ v, vs[j]? = some v ∧ SlOk K H0 F H (some v) s
  | _, _, _, _, .nil, e => by cases e
  | _, _, 0, _, .fz h _, e => by cases e; exact ⟨rfl, _, rfl, _, rfl, h⟩
  | _, _, 0, _, .raw _, e => by cases e; exact ⟨rfl, _, rfl, rfl⟩
  | _, _, j + 1, s, .fz _ t, e => t.get (j := j) (by simpa using e)
  | _, _, j + 1, s, .raw t, e => t.get (j := j) (by simpa using e)
def startS (n : Nat) (Gs : List Sl) : List Sl := Gs ++ List.replicate (n - Gs.length) .un
theorem holds_startS {K : PySem.W.Frag} {Tb : List Addr} {F H : Hp} {vs : List V} {Gs : List Sl} {Nn : List Str} (sb : Sub F H) (ht : ∀ P ∈ Tb, GxR.TabG H P) (hd : ByS K F vs Gs) : Holds ⟨K, Tb, F, H, F⟩ (startS Nn.length Gs) (L2.start Nn vs) F H := by
  have hl := hd.len
  have get : ∀ (j : Nat) (s : Sl), (startS Nn.length Gs)[j]? = some s → s = .un ∨ Gs[j]? = some s := fun j s e => by
    unfold startS at e
    rcases Nat.lt_or_ge j Gs.length with hj | hj
    · rw [List.getElem?_append_left hj] at e; exact .inr e
    · rw [List.getElem?_append_right hj, List.getElem?_replicate] at e
      split at e
      · cases e; exact .inl rfl
      · cases e
  refine ⟨by unfold L2.start startS; rw [List.length_append, List.length_append, List.length_map, List.length_replicate, List.length_replicate, hl], Stp.refl sb, fun j s o e1 e2 => ?_, fun j k s t p e1 _ m1 _ _ _ => ?_, ht, Ex.refl F⟩
  · rcases get j s e1 with rfl | h
    · trivial
    · obtain ⟨_, v, h2, h3⟩ := hd.get (H0 := H) (H := H) h
      unfold L2.start at e2
      have hj : j < vs.length := (List.getElem?_eq_some_iff.mp h2).1
      rw [List.getElem?_append_left (by rw [List.length_map]; exact hj), List.getElem?_map, h2] at e2
      cases e2
      exact h3
  · rcases get j s e1 with rfl | h
    · cases m1
    · rw [(hd.get (H0 := H) (H := H) h).1] at m1; cases m1
/-- a promise by slots: data for good -/
def spS (K : PySem.W.Frag) (Tb : List Addr) (R : Hp → List Sl → PyData → Prop) : Sp := fun vs H Q _ => ∃ F Gs d, Sub F H ∧ (∀ P ∈ Tb, GxR.TabG H P) ∧ ByS K F vs Gs ∧ R F Gs d ∧ ∀ v F' H', Stp F H F' H' → Dp K F' v d → Q v H'
/-- .. a new list -/
def spSL (K : PySem.W.Frag) (Tb : List Addr) (R : Hp → List Sl → List PyData → Prop) : Sp := fun vs H Q _ => ∃ F Gs es, Sub F H ∧ (∀ P ∈ Tb, GxR.TabG H P) ∧ ByS K F vs Gs ∧ R F Gs es ∧ ∀ p ws F' H', Stp F H F' H' → H p = none → F' p = none → H' p = some (.lst ws) → DpAll K F' ws es → Q (.ref p) H'
/-- .. an object of the class C -/
def spSO (K : PySem.W.Frag) (Tb : List Addr) (C : Addr) (R : Hp → List Sl → List (Str × PyData) → Prop) : Sp := fun vs H Q _ => ∃ F Gs fs, Sub F H ∧ (∀ P ∈ Tb, GxR.TabG H P) ∧ ByS K F vs Gs ∧ R F Gs fs ∧ ∀ a F' H', Stp F H F' H' → ObF K F' a C fs → Q (.ref a) H'
section
variable {P : Program} {w : World} {K : PySem.W.Frag} {mg : Str → Option Value} {base : Heap} {x qual : Str} {st : Stmt} {f : Addr} {fd : FuncData} {Nn ps : List Str} {k : Nat} {Tb : List Addr}
theorem df_S (F : Fun K x qual st f fd) (Sc : FnScope Nn ps (defScope st)) (hm : mg x = some (.ref f)) (hb : Binds K fd ps []) {R : Hp → List Sl → PyData → Prop} (hlen : ∀ F Gs d, R F Gs d → Gs.length = ps.length)
    (body : ∀ (cdv : Value) (A : Around) (outer : List Env) (s : Shared) (H : Hp) (E : XK), Room k (A.deeper (envOfC qual (defScope st) s.heap.objs.size f cdv)) →
      ∃ t, PSs (cxOf CX0 P w K mg base Nn qual (defScope st) f cdv A outer s H E).nox (defBody st) t ∧ ∀ (Gs : List Sl) (d : PyData) (F0 H0 : Hp) (Q : VK), R F0 Gs d → Rt ⟨K, Tb, F0, H0, F0⟩ Q d → S ⟨K, Tb, F0, H0, F0⟩ t { nx := fun _ H' => Q .non H', rt := Q } (startS Nn.length Gs)) :
    Df P w K mg base (k + 1) x ps (spS K Tb R) := by
  refine ⟨f, fd, F.ok Sc (fun vs H Q E h => ?_) (fun cdv A outer s H vs Q E hr h => ?_), hm, F.kp, hb⟩
  · obtain ⟨F, Gs, d, _, _, hd, r, _⟩ := h
    exact hd.len.trans (hlen F Gs d r)
  · obtain ⟨F1, Gs, d, sb, ht, hd, r, q⟩ := h
    obtain ⟨t, h1, h2⟩ := body cdv A outer s H E hr
    exact ⟨t, h1, h2 Gs d F1 H Q r q _ F1 H (holds_startS sb ht hd)⟩
theorem df_SL (F : Fun K x qual st f fd) (Sc : FnScope Nn ps (defScope st)) (hm : mg x = some (.ref f)) (hb : Binds K fd ps []) {R : Hp → List Sl → List PyData → Prop} (hlen : ∀ F Gs d, R F Gs d → Gs.length = ps.length)
    (body : ∀ (cdv : Value) (A : Around) (outer : List Env) (s : Shared) (H : Hp) (E : XK), Room k (A.deeper (envOfC qual (defScope st) s.heap.objs.size f cdv)) →
      ∃ t, PSs (cxOf CX0 P w K mg base Nn qual (defScope st) f cdv A outer s H E).nox (defBody st) t ∧ ∀ (Gs : List Sl) (es : List PyData) (F0 H0 : Hp) (Q : VK), R F0 Gs es → RtL ⟨K, Tb, F0, H0, F0⟩ Q es → S ⟨K, Tb, F0, H0, F0⟩ t { nx := fun _ H' => Q .non H', rt := Q } (startS Nn.length Gs)) :
    Df P w K mg base (k + 1) x ps (spSL K Tb R) := by
  refine ⟨f, fd, F.ok Sc (fun vs H Q E h => ?_) (fun cdv A outer s H vs Q E hr h => ?_), hm, F.kp, hb⟩
  · obtain ⟨F, Gs, d, _, _, hd, r, _⟩ := h
    exact hd.len.trans (hlen F Gs d r)
  · obtain ⟨F1, Gs, d, sb, ht, hd, r, q⟩ := h
    obtain ⟨t, h1, h2⟩ := body cdv A outer s H E hr
    exact ⟨t, h1, h2 Gs d F1 H Q r q _ F1 H (holds_startS sb ht hd)⟩
end
/-- arguments by slots -/
def AS (g : Gd) (ta : TA) (G Gs : List Sl) : Prop := ∀ σ F H, Holds g G σ F H → ∀ Q : List V → Hp → Prop, (∀ vs F' H', Stp F H F' H' → ByS g.K F' vs Gs → Q vs H') → ta σ H Q
section
variable {g : Gd} {G Gs : List Sl} {te : TE} {ta : TA} {tw : TS} {d : PyData} {es : List PyData} {i : Nat} {D : Ends} {v : V} {a C : Addr} {fs : List (Str × PyData)} {n : Str}
theorem as_nil : AS g tNil G [] := fun σ F H hh Q q => q [] F H (Stp.refl hh.st.i) .nil
theorem as_cons (h : E g te G d) (hr : AS g ta G Gs) : AS g (tCons te ta) G (.fz d :: Gs) := fun σ F H hh Q q => h σ F H hh _ fun v F1 H1 s1 d1 => hr σ F1 H1 (hh.mono s1) _ fun vs F2 H2 s2 d2 => q (v :: vs) F2 H2 (s1.trans s2) (.fz (s2.f.dp _ v d1) d2)
theorem as_raw (h : G[i]? = some (.raw v)) (hr : AS g ta G Gs) : AS g (tCons (tVar i) ta) G (.raw v :: Gs) := fun σ F H hh Q q => by
  obtain ⟨o, eo, ok⟩ := hh.at_ h
  obtain rfl : o = some v := ok
  exact ⟨v, eo, hr σ F H hh _ fun vs F2 H2 s2 d2 => q (v :: vs) F2 H2 s2 (.raw d2)⟩
/-- a constant that is no data (a def's own address) -/
theorem as_con (hr : AS g ta G Gs) : AS g (tCons (tC v) ta) G (.raw v :: Gs) := fun σ F H hh Q q => hr σ F H hh _ fun vs F2 H2 s2 d2 => q (v :: vs) F2 H2 s2 (.raw d2)
theorem e_callS {R : Hp → List Sl → PyData → Prop} {Ek : XK} (h : AS g ta G Gs) (r : ∀ F, Ex g.Fl F → R F Gs d) : E g (tCall (spS g.K g.T R) [] Ek ta) G d := fun σ F H hh Q q => h σ F H hh _ fun vs F1 H1 s1 d1 => by
  rw [List.append_nil]
  exact ⟨F1, Gs, d, s1.i, (hh.mono s1).tab, d1, r F1 (hh.mono s1).lo, fun v F2 H2 s2 d2 => q v F2 H2 (s1.trans s2) d2⟩
theorem el_callS {R : Hp → List Sl → List PyData → Prop} {Ek : XK} (h : AS g ta G Gs) (r : ∀ F, Ex g.Fl F → R F Gs es) : EL g (tCall (spSL g.K g.T R) [] Ek ta) G es := fun σ F H hh Q q => h σ F H hh _ fun vs F1 H1 s1 d1 => by
  rw [List.append_nil]
  exact ⟨F1, Gs, es, s1.i, (hh.mono s1).tab, d1, r F1 (hh.mono s1).lo, fun p ws F2 H2 s2 h0 hF hH d2 => q p ws F2 H2 (s1.trans s2) (old_free s1 h0) hF hH d2⟩
/-- e.n of an object that stays -/
theorem e_fldO (hi : G[i]? = some (.raw (.ref a))) (ob : ObF g.K g.Fl a C fs) (hC : Cls g.K C) (hn : NoAttr g.K C n) (hl : fs.lookup n = some d) : E g (tFld g.K (tVar i) n) G d := fun σ F H hh Q q => by
  obtain ⟨o, eo, ok⟩ := hh.at_ hi
  obtain rfl : o = some (.ref a) := ok
  obtain ⟨dx, ws, h1, h2, h3⟩ := ob.mono hh.lo
  have hH : H a = some (.ins C dx ws) := hh.st.i.ex a _ h1 fun _ z => by cases z
  obtain ⟨v, e1, e2⟩ := FsOk.get h3 hl
  exact ⟨.ref a, eo, a, C, dx, ws, v, rfl, hH, hC, hn, e1, q v F H (Stp.refl hh.st.i) e2⟩
/-- x = f(..), f a def that gives an object -/
theorem s_asgO {R : Hp → List Sl → List (Str × PyData) → Prop} {Ek : XK} (h : AS g ta G Gs) (r : ∀ F, Ex g.Fl F → R F Gs fs) (k : ∀ a F1, ObF g.K F1 a C fs → Ex g.Fl F1 → N { g with Fl := F1 } D.nx (G.set i (.raw (.ref a)))) : S g (tAsg (tCall (spSO g.K g.T C R) [] Ek ta) (gName i)) D G := fun σ F H hh => h σ F H hh _ fun vs F1 H1 s1 d1 => by
  rw [List.append_nil]
  refine ⟨F1, Gs, fs, s1.i, (hh.mono s1).tab, d1, r F1 (hh.mono s1).lo, fun a F2 H2 s2 ob => ?_⟩
  have h3 := ((hh.mono (s1.trans s2)).set (i := i) (v := .ref a) (s := .raw (.ref a)) rfl fun z => by cases z)
  exact k a F2 ob (hh.mono (s1.trans s2)).lo _ F2 H2 ⟨h3.len, h3.st, h3.sl, h3.apart, h3.tab, Ex.refl _⟩
theorem q_asgO {R : Hp → List Sl → List (Str × PyData) → Prop} {Ek : XK} (h : AS g ta G Gs) (r : ∀ F, Ex g.Fl F → R F Gs fs) (k : ∀ a F1, ObF g.K F1 a C fs → Ex g.Fl F1 → S { g with Fl := F1 } tw D (G.set i (.raw (.ref a)))) : S g (tSeq (tAsg (tCall (spSO g.K g.T C R) [] Ek ta) (gName i)) tw) D G := s_asgO (D := { D with nx := tw D }) h r k
end
/-- .. that tells what is raised too -/
def spSX (K : PySem.W.Frag) (Tb : List Addr) (R : Hp → List Sl → Out → Prop) : Sp := fun vs H Q Ek => ∃ F Gs o, Sub F H ∧ (∀ P ∈ Tb, GxR.TabG H P) ∧ ByS K F vs Gs ∧ R F Gs o ∧ OutOk ⟨K, Tb, F, H, F⟩ Q Ek o
section
variable {P : Program} {w : World} {K : PySem.W.Frag} {mg : Str → Option Value} {base : Heap} {x qual : Str} {st : Stmt} {f : Addr} {fd : FuncData} {Nn ps : List Str} {k : Nat} {Tb : List Addr}
theorem df_SX (F : Fun K x qual st f fd) (Sc : FnScope Nn ps (defScope st)) (hm : mg x = some (.ref f)) (hb : Binds K fd ps []) {R : Hp → List Sl → Out → Prop} (hlen : ∀ F Gs o, R F Gs o → Gs.length = ps.length)
    (body : ∀ (cdv : Value) (A : Around) (outer : List Env) (s : Shared) (H : Hp) (E : XK), Room k (A.deeper (envOfC qual (defScope st) s.heap.objs.size f cdv)) →
      ∃ t, PSs (cxOf (L2.CX P w) P w K mg base Nn qual (defScope st) f cdv A outer s H E) (defBody st) t ∧ ∀ (Gs : List Sl) (o : Out) (F0 H0 : Hp) (Q : VK), R F0 Gs o → OutOk ⟨K, Tb, F0, H0, F0⟩ Q E o → S ⟨K, Tb, F0, H0, F0⟩ t { nx := fun _ H' => Q .non H', rt := Q } (startS Nn.length Gs)) :
    DfX P w K mg base (k + 1) x ps (spSX K Tb R) := by
  refine ⟨f, fd, F.okX Sc (fun vs H Q E h => ?_) (fun cdv A outer s H vs Q E hr h => ?_), hm, F.kp, hb⟩
  · obtain ⟨F, Gs, o, _, _, hd, r, _⟩ := h
    exact hd.len.trans (hlen F Gs o r)
  · obtain ⟨F1, Gs, o, sb, ht, hd, r, q⟩ := h
    obtain ⟨t, h1, h2⟩ := body cdv A outer s H E hr
    exact ⟨t, h1, h2 Gs o F1 H Q r q _ F1 H (holds_startS sb ht hd)⟩
end
theorem e_callSX {g : Gd} {G Gs : List Sl} {ta : TA} {d : PyData} {R : Hp → List Sl → Out → Prop} {Ek : L2.St → XK} (h : AS g ta G Gs) (r : ∀ F, Ex g.Fl F → R F Gs (.val d)) : E g (tCallS (spSX g.K g.T R) Ek ta) G d := fun σ F H hh Q q => h σ F H hh _ fun vs F1 H1 s1 d1 =>
  ⟨F1, Gs, .val d, s1.i, (hh.mono s1).tab, d1, r F1 (hh.mono s1).lo, fun v F2 H2 s2 d2 => q v F2 H2 (s1.trans s2) d2⟩
/-- f(k = v, ..), all by keyword -/
theorem pe_callN0 {X : Cx} {CX : CXT} {k : Nat} {f : Addr} {fd : FuncData} {ps ks : List Str} {sp : Sp} {E : XK} {x : Str} {p pos : Pos} {kws : List Keyword} {tk : TA} {g : List Value → List Value → List Value} {gV : List V → List V → List V} (F : FnOk X.prog X.w X.K X.mg X.base CX k f fd ps sp) (hr : Room k X.A) (hg : Gl X x) (hm : X.mg x = some (.ref f)) (hk : PySem.W.keepIn X.K (.ref f) = true) (hb : KBn X.K fd ps 0 ks g gV) (hx : Passes CX X E) (hkw : PK X kws tk)
    (hall : (backToKw pos (keywordEach kws X.env)).all (·.1.isSome) = true := by rfl) (hks : (backToKw pos (keywordEach kws X.env)).filterMap (·.1) = ks := by rfl) (hdb : (x == ("__debug__" : Str)) = false := by decide)
    (hpl : ((backTo pos (starEach [] X.env)).any (·.1) || (backToKw pos (keywordEach kws X.env)).any (·.1.isNone)) = false := by rfl) :
    PE X (.Call (.Name x p) [] kws pos) (tCallN 0 ks.length sp gV E tNil tk) := by
  refine ⟨fun pins s σ H Q I h => ?_⟩
  refine wpAny_Call_Name_kw (ld_glob I hg hm ?_ hdb)
  refine PySem.W.callWith_KW0 (h₀ := X.base) I.ok.mod.kin hk hall ?_ hpl
  refine thn (hkw.run pos pins s σ H _ I h) fun ws s2 ⟨zs, H2, I2, rz, l1, l2, q2⟩ => ⟨I2.kIn, ?_⟩
  rw [hks]
  exact run_fnN (us := []) (vs := []) F hr hb hx I2 .nil rz rfl l2 q2
end DW

/-! __init__ of an own class: self.f = x, self.f = list(x) -/
namespace DW
open PySem PySem.Spec PyProof.Rows L2
/-- the object at a is being made: (F, H2) stood before it -/
structure Ini (K : PySem.W.Frag) (C : Addr) (F H2 : Hp) (a dx : Addr) (F1 H1 : Hp) (fs : List (Str × PyData)) : Prop where
  st : Stp F H2 F1 H1
  a0 : H2 a = none
  fa : F1 a = none
  own : F1 dx = some (.own a)
  ha : ∃ ws, H1 a = some (.ins C dx ws) ∧ FsOk K F1 ws fs
theorem putF_new {f : Str} {v : V} : ∀ {ws : List (Str × V)}, f ∉ ws.map (·.1) → putF f v ws = ws ++ [(f, v)]
  | [], _ => rfl
  | (g, x) :: r, h => by
    rw [List.map_cons, List.mem_cons, not_or] at h
    show (if g = f then (g, v) :: r else (g, x) :: putF f v r) = _
    rw [if_neg (fun e => h.1 e.symm), putF_new h.2]; rfl
section
variable {K : PySem.W.Frag} {C : Addr} {F H2 F1 H1 F3 H3 : Hp} {a dx : Addr} {fs : List (Str × PyData)} {f : Str} {y : V} {d : PyData}
theorem Ini.more (h : Ini K C F H2 a dx F1 H1 fs) (s : Stp F1 H1 F3 H3) : Ini K C F H2 a dx F3 H3 fs := by
  obtain ⟨ws, e1, e2⟩ := h.ha
  exact ⟨h.st.trans s, h.a0, s.n a _ e1 h.fa, s.f dx _ h.own (fun _ z => by cases z), ws, s.h a _ e1 (fun _ z => by cases z), e2.mono s.f⟩
theorem Ini.put (h : Ini K C F H2 a dx F1 H1 fs) (hd : Dp K F1 y d) (hf : f ∉ fs.map (·.1)) {ws : List (Str × V)} (e1 : H1 a = some (.ins C dx ws)) (e2 : FsOk K F1 ws fs) : Ini K C F H2 a dx F1 (upd H1 a (.ins C dx (putF f y ws))) (fs ++ [(f, d)]) := by
  have hw : f ∉ ws.map (·.1) := by rw [e2.ns]; exact hf
  refine ⟨h.st.mut h.a0 h.fa e1 (fun _ z => by cases z), h.a0, h.fa, h.own, _, upd_same, ?_⟩
  rw [putF_new hw]
  exact ⟨by rw [List.map_append, List.map_append, e2.ns]; rfl, by rw [List.map_append, List.map_append]; exact dps_app e2.ds (.cons hd .nil)⟩
theorem Ini.obj (h : Ini K C F H2 a dx F1 H1 fs) : ∃ F3, Stp F H2 F3 H1 ∧ ObF K F3 a C fs := by
  obtain ⟨ws, e1, e2⟩ := h.ha
  have ne : ∀ {b : Addr} {u : HO}, F1 b = some u → b ≠ a := fun {b u} e z => by rw [z, h.fa] at e; cases e
  have ex : Ex F1 (upd F1 a (.ins C dx ws)) := fun b u q n => by rw [upd_ne (ne q)]; exact q
  refine ⟨upd F1 a (.ins C dx ws), ⟨h.st.f.trans ex, ⟨fun b u q n => ?_, fun b ps q => ?_⟩, h.st.h, h.st.s, h.st.t, fun b u q n => ?_⟩, dx, ws, upd_same, by rw [upd_ne (ne h.own)]; exact h.own, e2.mono ex⟩
  · by_cases hb : b = a
    · subst hb; rw [upd_same] at q; cases q; exact e1
    · rw [upd_ne hb] at q; exact h.st.i.ex b u q n
  · by_cases hb : b = a
    · subst hb; rw [upd_same] at q; cases q
    · rw [upd_ne hb] at q; exact h.st.i.nt b ps q
  · rw [upd_ne (fun z => by rw [z, h.a0] at q; cases q)]; exact h.st.n b u q n
/-- the statements of __init__, fs the fields laid so far -/
def SI (K : PySem.W.Frag) (C : Addr) (F H2 : Hp) (a dx : Addr) (σ : L2.St) (fs : List (Str × PyData)) (t : TS) (D : Ends) : Prop := ∀ F1 H1, Ini K C F H2 a dx F1 H1 fs → t D σ H1
variable {σ : L2.St} {t tw : TS} {D : Ends} {j : Nat} {v : V} {ds : List PyData}
theorem si_val (h0 : σ[0]? = some (some (.ref a))) (hj : σ[j]? = some (some v)) (hd : Dp K F v d) (hC : Cls K C) (hn : NoAttr K C f) (hf : f ∉ fs.map (·.1)) (hl : fs.length < 1000) (k : ∀ F1 H1, Ini K C F H2 a dx F1 H1 (fs ++ [(f, d)]) → D.nx σ H1) : SI K C F H2 a dx σ fs (sFld K (tVar 0) (tVar j) f) D := fun F1 H1 I => by
  obtain ⟨ws, e1, e2⟩ := I.ha
  have lw : ws.length = fs.length := by have := congrArg List.length e2.ns; rwa [List.length_map, List.length_map] at this
  exact ⟨v, hj, .ref a, h0, a, C, dx, ws, rfl, e1, hC, hn, by omega, k _ _ (I.put (I.st.f.dp d v hd) hf e1 e2)⟩
/-- self.f = list(x), x a list or a tuple -/
theorem si_list (h0 : σ[0]? = some (some (.ref a))) (hj : σ[j]? = some (some v)) (hd : Dp K F v (.list ds) ∨ Dp K F v (.tuple ds)) (hC : Cls K C) (hn : NoAttr K C f) (hf : f ∉ fs.map (·.1)) (hl : fs.length < 1000) (k : ∀ F1 H1, Ini K C F H2 a dx F1 H1 (fs ++ [(f, .list ds)]) → D.nx σ H1) : SI K C F H2 a dx σ fs (sFld K (tVar 0) (tCB (rListW K) (tCons (tVar j) tNil)) f) D := fun F1 H1 I => by
  have fin : ∀ (vs : List V) (p : Addr), DpAll K F1 vs ds → H1 p = none → ∃ x, x = V.ref a ∧ ∃ a' C' dx' ws, x = .ref a' ∧ upd H1 p (.lst vs) a' = some (.ins C' dx' ws) ∧ Cls K C' ∧ NoAttr K C' f ∧ ws.length < 1000 ∧ D.nx σ (upd (upd H1 p (.lst vs)) a' (.ins C' dx' (putF f (.ref p) ws))) := fun vs p hv hp => by
    have st := Stp.new (o := .lst vs) I.st.i hp fun _ z => by cases z
    have I3 := I.more st
    obtain ⟨ws, e1, e2⟩ := I3.ha
    have lw : ws.length = fs.length := by have := congrArg List.length e2.ns; rwa [List.length_map, List.length_map] at this
    exact ⟨_, rfl, a, C, dx, ws, rfl, e1, hC, hn, by omega, k _ _ (I3.put (.lst (.inl (.inl upd_same)) (st.f.dps ds vs hv)) hf e1 e2)⟩
  rcases hd with hd | hd
  · obtain ⟨b, vs, rfl, h1, h2⟩ := dp_sq (I.st.f.dp _ v hd)
    refine ⟨.ref b, hj, .inl ⟨b, vs, rfl, .inl (I.st.i.ex.l h1), fun p hp => ?_⟩⟩
    obtain ⟨x, rfl, q⟩ := fin vs p h2 hp
    exact ⟨.ref a, h0, q⟩
  · obtain ⟨b, vs, rfl, h1, h2⟩ := dp_tq (I.st.f.dp _ v hd)
    refine ⟨.ref b, hj, .inl ⟨b, vs, rfl, .inr (I.st.i.ex.t h1), fun p hp => ?_⟩⟩
    obtain ⟨x, rfl, q⟩ := fin vs p h2 hp
    exact ⟨.ref a, h0, q⟩
theorem si_seq (h : SI K C F H2 a dx σ fs t { D with nx := tw D }) : SI K C F H2 a dx σ fs (tSeq t tw) D := h
end
/-- __init__'s promise: the object's fields -/
def spI (K : PySem.W.Frag) (Tb : List Addr) (C : Addr) (R : List PyData → List (Str × PyData) → Prop) : Sp := fun vs H Q _ => ∃ F H2 a dx ws ds fs, vs = .ref a :: ws ∧ Sub F H2 ∧ (∀ P ∈ Tb, GxR.TabG H2 P) ∧ H2 a = none ∧ H2 dx = none ∧ dx ≠ a ∧ H = upd (upd H2 dx (.own a)) a (.ins C dx []) ∧ DpAll K F ws ds ∧ R ds fs ∧
  ∀ F' H', Stp F H2 F' H' → ObF K F' a C fs → Q .non H'
/-- its start -/
theorem ini_start {K : PySem.W.Frag} {C : Addr} {F H2 : Hp} {a dx : Addr} (sb : Sub F H2) (ha : H2 a = none) (hx : H2 dx = none) (ne : dx ≠ a) : Ini K C F H2 a dx (upd F dx (.own a)) (upd (upd H2 dx (.own a)) a (.ins C dx [])) [] := by
  have st := Stp.new (o := .own a) sb hx fun _ z => by cases z
  have fa : upd F dx (.own a) a = none := by rw [upd_ne (Ne.symm ne)]; exact sb.free ha
  have h1 : upd H2 dx (.own a) a = none := by rw [upd_ne (Ne.symm ne)]; exact ha
  exact ⟨st.trans (Stp.mine st.i h1), ha, fa, upd_same, [], upd_same, rfl, .nil⟩
section
variable {g : Gd} {G : List Sl} {tk : TA} {tw : TS} {ds : List PyData} {i m : Nat} {D : Ends} {C : Addr} {fs : List (Str × PyData)} {gV : List V → List V → List V}
/-- x = C(k = v, ..) -/
theorem s_make {R : List PyData → List (Str × PyData) → Prop} {Ek : XK} (hA : A g tk G ds) (hm : ds.length = m) (hg : ∀ v zs, zs.length = m → gV [v] zs = v :: zs) (r : R ds fs) (k : ∀ a F1, ObF g.K F1 a C fs → Ex g.Fl F1 → N { g with Fl := F1 } D.nx (G.set i (.raw (.ref a)))) : S g (tAsg (tMakeK C 0 m (spI g.K g.T C R) gV Ek tNil tk) (gName i)) D G := fun σ F H hh => hA σ F H hh _ fun vs F1 H1 s1 d1 => by
  have lz : vs.length = m := (dps_len d1).trans hm
  refine ⟨rfl, lz, fun x dx hx hdx ne => ?_⟩
  rw [hg _ _ lz]
  refine ⟨F1, H1, x, dx, vs, ds, fs, rfl, s1.i, (hh.mono s1).tab, hx, hdx, ne, rfl, d1, r, fun F2 H2 s2 ob => ⟨rfl, ?_⟩⟩
  have h3 := ((hh.mono (s1.trans s2)).set (i := i) (v := .ref x) (s := .raw (.ref x)) rfl fun z => by cases z)
  exact k x F2 ob (hh.mono (s1.trans s2)).lo _ F2 H2 ⟨h3.len, h3.st, h3.sl, h3.apart, h3.tab, Ex.refl _⟩
theorem q_make {R : List PyData → List (Str × PyData) → Prop} {Ek : XK} (hA : A g tk G ds) (hm : ds.length = m) (hg : ∀ v zs, zs.length = m → gV [v] zs = v :: zs) (r : R ds fs) (k : ∀ a F1, ObF g.K F1 a C fs → Ex g.Fl F1 → S { g with Fl := F1 } tw D (G.set i (.raw (.ref a)))) : S g (tSeq (tAsg (tMakeK C 0 m (spI g.K g.T C R) gV Ek tNil tk) (gName i)) tw) D G := s_make (D := { D with nx := tw D }) hA hm hg r k
/-- return made -/
def RtO (g : Gd) (rt : VK) (C : Addr) (fs : List (Str × PyData)) : Prop := ∀ a F H, Stp g.F0 g.H0 F H → ObF g.K F a C fs → rt (.ref a) H
theorem s_retOb {a : Addr} (hi : G[i]? = some (.raw (.ref a))) (ob : ObF g.K g.Fl a C fs) (k : RtO g D.rt C fs) : S g (tRet (tVar i)) D G := fun σ F H hh => by
  obtain ⟨o, eo, ok⟩ := hh.at_ hi
  obtain rfl : o = some (.ref a) := ok
  exact ⟨.ref a, eo, k a F H hh.st (ob.mono hh.lo)⟩
end
section
variable {P : Program} {w : World} {K : PySem.W.Frag} {mg : Str → Option Value} {base : Heap} {x qual : Str} {st : Stmt} {f C : Addr} {fd : FuncData} {Nn ps : List Str} {k : Nat} {Tb : List Addr}
/-- __init__ keeps its promise -/
theorem fn_I (F : Fun K x qual st f fd) (Sc : FnScope Nn ps (defScope st)) {R : List PyData → List (Str × PyData) → Prop} (hlen : ∀ ds fs, R ds fs → ds.length + 1 = ps.length)
    (body : ∀ (cdv : Value) (A : Around) (outer : List Env) (s : Shared) (H : Hp) (E : XK), Room k (A.deeper (envOfC qual (defScope st) s.heap.objs.size f cdv)) →
      ∃ t, PSs (cxOf CX0 P w K mg base Nn qual (defScope st) f cdv A outer s H E).nox (defBody st) t ∧ ∀ (F0 H2 : Hp) (a dx : Addr) (ws : List V) (ds : List PyData) (fs : List (Str × PyData)) (Q : VK), DpAll K F0 ws ds → R ds fs → (∀ F1 H1, Ini K C F0 H2 a dx F1 H1 fs → Q .non H1) → SI K C F0 H2 a dx (L2.start Nn (.ref a :: ws)) [] t { nx := fun _ H' => Q .non H', rt := Q }) :
    FnOk P w K mg base CX0 (k + 1) f fd ps (spI K Tb C R) := by
  refine F.ok Sc (fun vs H Q E h => ?_) (fun cdv A outer s H vs Q E hr h => ?_)
  · obtain ⟨F, H2, a, dx, ws, ds, fs, rfl, _, _, _, _, _, _, hd, r, _⟩ := h
    rw [List.length_cons, dps_len hd]
    exact hlen ds fs r
  · obtain ⟨F1, H2, a, dx, ws, ds, fs, rfl, sb, ht, ha, hx, ne, rfl, hd, r, q⟩ := h
    obtain ⟨t, h1, h2⟩ := body cdv A outer s _ E hr
    refine ⟨t, h1, h2 F1 H2 a dx ws ds fs Q hd r (fun F3 H3 I => ?_) _ _ (ini_start sb ha hx ne)⟩
    obtain ⟨F4, s4, ob⟩ := I.obj
    exact q F4 H3 s4 ob
end
/-- a class at hand, made by keywords in the parameters' order -/
structure MkOk (P : Program) (w : World) (K : PySem.W.Frag) (mg : Str → Option Value) (base : Heap) (k : Nat) (x : Str) (C : Addr) (ks : List Str) (sp : Sp) : Prop where
  ex : ∃ f fd ps, Mk K C f ∧ FnOk P w K mg base CX0 k f fd ps sp ∧ mg x = some (.ref C) ∧ KBn K fd ps 1 ks (fun us ws => us ++ ws) (fun vs zs => vs ++ zs)
theorem pe_mk {X : Cx} {j k : Nat} {x : Str} {C : Addr} {ks : List Str} {sp : Sp} {p pos : Pos} {kws : List Keyword} {tk : TA} (M : MkOk X.prog X.w X.K X.mg X.base j x C ks sp) (hr : Room k X.A) (hj : j + 1 ≤ k) (hg : Gl X x) (hkw : PK X kws tk)
    (hall : (backToKw pos (keywordEach kws X.env)).all (·.1.isSome) = true := by rfl) (hks : (backToKw pos (keywordEach kws X.env)).filterMap (·.1) = ks := by rfl) (hdb : (x == ("__debug__" : Str)) = false := by decide)
    (hpl : ((backTo pos (starEach [] X.env)).any (·.1) || (backToKw pos (keywordEach kws X.env)).any (·.1.isNone)) = false := by rfl) :
    PE X (.Call (.Name x p) [] kws pos) (tMakeK C 0 ks.length sp (fun vs zs => vs ++ zs) E0 tNil tk) := by
  obtain ⟨f, fd, ps, m, F, hm, hb⟩ := M.ex
  exact pe_makeK0 m F (hr.mono hj) hg hm hb pass0 hkw hall hks hdb hpl
/-- a def at hand, called by keywords alone; gV sets the lacking ones in -/
structure DfK (P : Program) (w : World) (K : PySem.W.Frag) (mg : Str → Option Value) (base : Heap) (k : Nat) (x : Str) (ks : List Str) (gV : List V → List V → List V) (sp : Sp) : Prop where
  ex : ∃ f fd ps g, FnOk P w K mg base CX0 k f fd ps sp ∧ mg x = some (.ref f) ∧ PySem.W.keepIn K (.ref f) = true ∧ KBn K fd ps 0 ks g gV
theorem pe_dfK {X : Cx} {j k : Nat} {x : Str} {ks : List Str} {gV : List V → List V → List V} {sp : Sp} {p pos : Pos} {kws : List Keyword} {tk : TA} (D : DfK X.prog X.w X.K X.mg X.base j x ks gV sp) (hr : Room k X.A) (hj : j ≤ k) (hg : Gl X x) (hkw : PK X kws tk)
    (hall : (backToKw pos (keywordEach kws X.env)).all (·.1.isSome) = true := by rfl) (hks : (backToKw pos (keywordEach kws X.env)).filterMap (·.1) = ks := by rfl) (hdb : (x == ("__debug__" : Str)) = false := by decide)
    (hpl : ((backTo pos (starEach [] X.env)).any (·.1) || (backToKw pos (keywordEach kws X.env)).any (·.1.isNone)) = false := by rfl) :
    PE X (.Call (.Name x p) [] kws pos) (tCallN 0 ks.length sp gV E0 tNil tk) := by
  obtain ⟨f, fd, ps, g, F, hm, hk, hb⟩ := D.ex
  exact pe_callN0 F (hr.mono hj) hg hm hk hb pass0 hkw hall hks hdb hpl
section
variable {g : Gd} {G Gs : List Sl} {tk : TA} {tw : TS} {ds : List PyData} {i m : Nat} {D : Ends} {C : Addr} {fs : List (Str × PyData)} {gV : List V → List V → List V}
/-- x = f(k = v, ..), f a def that gives an object -/
theorem s_callK {R : Hp → List Sl → List (Str × PyData) → Prop} {Ek : XK} (hA : A g tk G ds) (hm : ds.length = m) (hg : ∀ F zs, DpAll g.K F zs ds → ByS g.K F (gV [] zs) Gs) (r : ∀ F, Ex g.Fl F → R F Gs fs) (k : ∀ a F1, ObF g.K F1 a C fs → Ex g.Fl F1 → N { g with Fl := F1 } D.nx (G.set i (.raw (.ref a)))) : S g (tAsg (tCallN 0 m (spSO g.K g.T C R) gV Ek tNil tk) (gName i)) D G := fun σ F H hh => hA σ F H hh _ fun vs F1 H1 s1 d1 => by
  refine ⟨rfl, (dps_len d1).trans hm, F1, Gs, fs, s1.i, (hh.mono s1).tab, hg F1 vs d1, r F1 (hh.mono s1).lo, fun a F2 H2 s2 ob => ?_⟩
  have h3 := ((hh.mono (s1.trans s2)).set (i := i) (v := .ref a) (s := .raw (.ref a)) rfl fun z => by cases z)
  exact k a F2 ob (hh.mono (s1.trans s2)).lo _ F2 H2 ⟨h3.len, h3.st, h3.sl, h3.apart, h3.tab, Ex.refl _⟩
theorem q_callK {R : Hp → List Sl → List (Str × PyData) → Prop} {Ek : XK} (hA : A g tk G ds) (hm : ds.length = m) (hg : ∀ F zs, DpAll g.K F zs ds → ByS g.K F (gV [] zs) Gs) (r : ∀ F, Ex g.Fl F → R F Gs fs) (k : ∀ a F1, ObF g.K F1 a C fs → Ex g.Fl F1 → S { g with Fl := F1 } tw D (G.set i (.raw (.ref a)))) : S g (tSeq (tAsg (tCallN 0 m (spSO g.K g.T C R) gV Ek tNil tk) (gName i)) tw) D G := s_callK (D := { D with nx := tw D }) hA hm hg r k
end
section
variable {P : Program} {w : World} {K : PySem.W.Frag} {mg : Str → Option Value} {base : Heap} {x qual : Str} {params : Arguments} {bd : List Stmt} {scope : Scope} {dvs : List V} {kws : List (Str × V)} {f C : Addr} {fd : FuncData} {Nn ps : List Str} {k : Nat} {Tb : List Addr}
/-- a def with defaults that gives an object -/
theorem fn_SO (F : FunD K x qual params bd scope dvs kws f fd) (Sc : FnScope Nn ps scope) {R : Hp → List Sl → List (Str × PyData) → Prop} (hlen : ∀ F Gs fs, R F Gs fs → Gs.length = ps.length)
    (body : ∀ (cdv : Value) (A : Around) (outer : List Env) (s : Shared) (H : Hp) (E : XK), Room k (A.deeper (envOfC qual scope s.heap.objs.size f cdv)) →
      ∃ t, PSs (cxOf CX0 P w K mg base Nn qual scope f cdv A outer s H E).nox bd t ∧ ∀ (Gs : List Sl) (fs : List (Str × PyData)) (F0 H0 : Hp) (Q : VK), R F0 Gs fs → RtO ⟨K, Tb, F0, H0, F0⟩ Q C fs → S ⟨K, Tb, F0, H0, F0⟩ t { nx := fun _ H' => Q .non H', rt := Q } (startS Nn.length Gs)) :
    FnOk P w K mg base CX0 (k + 1) f fd ps (spSO K Tb C R) := by
  refine F.ok Sc (fun vs H Q E h => ?_) (fun cdv A outer s H vs Q E hr h => ?_)
  · obtain ⟨F1, Gs, fs, _, _, hd, r, _⟩ := h
    exact hd.len.trans (hlen F1 Gs fs r)
  · obtain ⟨F1, Gs, fs, sb, ht, hd, r, q⟩ := h
    obtain ⟨t, h1, h2⟩ := body cdv A outer s H E hr
    exact ⟨t, h1.nox, h2 Gs fs F1 H Q r q _ F1 H (holds_startS sb ht hd)⟩
end
end DW

/-! & >> << of ints, ord -/
namespace DW
open PySem PySem.Spec PyProof.Rows L2
theorem shr_i {g : Gd} {a b : Int} (h : 0 ≤ b) : R g (rI (fun _ j => 0 ≤ j) fun i j => .int (i / 2 ^ j.toNat)) (.int a) (.int b) (.int (a / 2 ^ b.toNat)) := fun u v F H e hu hv Q q => by
  cases hu; cases hv
  exact ⟨a, b, rfl, rfl, h, q _ F H (Stp.refl e) (.int _)⟩
theorem shl_i {g : Gd} {a b : Int} (h : CShl a b) : R g (rI CShl fun i j => .int (i * 2 ^ j.toNat)) (.int a) (.int b) (.int (a * 2 ^ b.toNat)) := fun u v F H e hu hv Q q => by
  cases hu; cases hv
  exact ⟨a, b, rfl, rfl, h, q _ F H (Stp.refl e) (.int _)⟩
theorem and_i {g : Gd} {a b : Int} : R g (rI0 fun i j => .int (Builtin.bitAnd i j)) (.int a) (.int b) (.int (Builtin.bitAnd a b)) := fun u v F H e hu hv Q q => by
  cases hu; cases hv
  exact ⟨a, b, rfl, rfl, q _ F H (Stp.refl e) (.int _)⟩
def rOrd : List V → Hp → VK → Prop := fun xs H Q => ∃ x, xs = [.str x] ∧ x.length = 1 ∧ Q (.int (x.cps.getD 0 0 : Nat)) H
theorem uOrd {X : Cx} : CallR X (.builtin "ord") rOrd := call_ord
theorem ord_s {g : Gd} {x : Str} (h : x.length = 1) : C1 g rOrd [.str x] (.int (x.cps.getD 0 0 : Nat)) := fun vs H hd Q q => by
  cases hd with
  | cons a t => cases t; cases a; exact ⟨x, rfl, h, q _ (.int _)⟩
theorem and_127 {n : Int} (h : 0 ≤ n) : Builtin.bitAnd n 127 = n % 128 := by
  unfold Builtin.bitAnd
  rw [decide_eq_true h, decide_eq_true (show (0 : Int) ≤ 127 by decide)]
  show ((n.toNat &&& 127 : Nat) : Int) = n % 128
  rw [show (127 : Nat) = 2 ^ 7 - 1 from rfl, Nat.and_two_pow_sub_one_eq_mod]
  show ((n.toNat % 128 : Nat) : Int) = n % 128
  omega
theorem and_1 {n : Int} (h : 0 ≤ n) : Builtin.bitAnd n 1 = n % 2 := by
  unfold Builtin.bitAnd
  rw [decide_eq_true h, decide_eq_true (show (0 : Int) ≤ 1 by decide)]
  show ((n.toNat &&& 1 : Nat) : Int) = n % 2
  rw [show (1 : Nat) = 2 ^ 1 - 1 from rfl, Nat.and_two_pow_sub_one_eq_mod]
  show ((n.toNat % 2 : Nat) : Int) = n % 2
  omega
end DW

/-! a def handed as an argument: its name as a value (pe_fv), a call of the slot that holds it (e_callA) -/
namespace DW
open PySem PySem.Spec PyProof.Rows L2
/-- the promise of the def that the module calls nm, by its address -/
def fS (mg : Str → Option Value) (nm : Str) (sp : Sp) : Addr → Option Sp := fun f => match mg nm with
  | some (.ref f') => if f' = f then some sp else none
  | _ => none
theorem fS_at {mg : Str → Option Value} {nm : Str} {sp : Sp} {f : Addr} (h : mg nm = some (.ref f)) : fS mg nm sp f = some sp := by
  unfold fS; rw [h]; exact if_pos rfl
section
variable {P : Program} {w : World} {K : PySem.W.Frag} {mg : Str → Option Value} {base : Heap} {k : Nat} {nm : Str} {ps : List Str} {sp : Sp}
theorem held_of (D : Df P w K mg base k nm ps sp) : ∀ f sp', fS mg nm sp f = some sp' → Held P w K mg base k f sp' := fun f sp' h => by
  obtain ⟨f0, fd, F, hm, hk, hb⟩ := D.ex
  unfold fS at h
  rw [hm] at h
  by_cases e : f0 = f
  · subst e
    have h : (if f0 = f0 then some sp else none) = some sp' := h
    rw [if_pos rfl] at h
    cases h
    exact ⟨fd, ps, F, hk, hb⟩
  · have h : (if f0 = f then some sp else none) = some sp' := h
    rw [if_neg e] at h
    cases h
theorem Df.fv (D : Df P w K mg base k nm ps sp) : ∃ f, mg nm = some (.ref f) := by
  obtain ⟨f0, fd, F, hm, hk, hb⟩ := D.ex
  exact ⟨f0, hm⟩
end
theorem pe_fv {X : Cx} {x : Str} {f : Addr} {pos : Pos} (h : X.mg x = some (.ref f)) (hg : Gl X x) (hd : (x == ("__debug__" : Str)) = false := by decide) : PE X (.Name x pos) (tC (.ref f)) := pe_gc ⟨.ref f, h, rfl⟩ hg hd
theorem e_callA {g : Gd} {G : List Sl} {ta : TA} {ds : List PyData} {d : PyData} {i : Nat} {f : Addr} {mg : Str → Option Value} {nm : Str} {R : List PyData → PyData → Prop} (hi : G[i]? = some (.raw (.ref f))) (hm : mg nm = some (.ref f)) (h : A g ta G ds) (r : R ds d) : E g (tCallA i (fS mg nm (spD g.K g.T R)) ta) G d := fun σ F H hh Q q => by
  obtain ⟨o, eo, ok⟩ := hh.at_ hi
  obtain rfl : o = some (.ref f) := ok
  exact ⟨f, _, eo, fS_at hm, h σ F H hh _ fun vs F1 H1 s1 d1 => ⟨F1, ds, d, s1.i, (hh.mono s1).tab, d1, r, fun v F2 H2 s2 d2 => q v F2 H2 (s1.trans s2) d2⟩⟩
end DW

/-! a tuple of defs: handed as an argument (e_callST), walked by a for (s_forR, q_forR) -/
namespace DW
open PySem PySem.Spec PyProof.Rows L2
section
variable {g : Gd} {G Gs : List Sl} {ta t1 : TA} {tu tw : TS} {D : Ends} {d : PyData} {j x : Nat} {p : Addr} {vs : List V}
theorem s_forR {α : Type} (Iv : Nat → α → List Sl) (P : Nat → α → Prop) (hj : G[j]? = some (.raw (.ref p))) (hp : SqT g.K g.Fl p vs) (a0 : α) (p0 : P 0 a0) (w0 : Wk G (Iv 0 a0))
    (turn : ∀ (i : Nat) (a : α) (v : V), vs[i]? = some v → P i a →
      S g tu { D with nx := nxI g (Iv (i + 1)) (P (i + 1)), ct := nxI g (Iv (i + 1)) (P (i + 1)), bk := D.nx } ((Iv i a).set x (.raw v)))
    (done : ∀ a, P vs.length a → N g D.nx (Iv vs.length a)) : S g (tFor (iAny g.K (tVar j)) (gName x) tu) D G := fun σ F H hh => by
  obtain ⟨o, eo, ok⟩ := hh.at_ hj
  obtain rfl : o = some (.ref p) := ok
  refine .inl (.inr ⟨.ref p, eo, p, rfl, ⟨vs, hh.st.i.ex.t (hh.lo.t hp)⟩, ?_⟩)
  refine ⟨fun i m σ H => m = vs.length - i ∧ i ≤ vs.length ∧ nxI g (Iv i) (P i) σ H, ⟨vs.length, by simp, Nat.zero_le _, a0, p0, F, hh.wk w0⟩, ?_⟩
  rintro i m σ2 H2 ⟨rfl, hi, a, pa, F2, hh2⟩
  have sq : SqT g.K H2 p vs := hh2.st.i.ex.t (hh2.lo.t hp)
  by_cases hlt : i < vs.length
  · refine .inr ⟨⟨vs, vs[i], sq, List.getElem?_eq_getElem hlt⟩, nxI g (Iv (i + 1)) (P (i + 1)), fun σ' H' q => ⟨vs.length - (i + 1), by omega, rfl, hlt, q⟩, fun y H' hy => ?_⟩
    obtain ⟨rfl, q⟩ := hy
    have e3 := q vs sq
    exact turn i a y e3 pa _ F2 _ (hh2.set (i := x) (v := y) (s := .raw y) rfl fun z => by cases z)
  · have e : i = vs.length := by omega
    subst e
    exact .inl ⟨⟨vs, sq, Nat.le_refl _⟩, done a pa σ2 F2 H2 hh2⟩
theorem q_forR {α : Type} (Iv : Nat → α → List Sl) (P : Nat → α → Prop) (hj : G[j]? = some (.raw (.ref p))) (hp : SqT g.K g.Fl p vs) (a0 : α) (p0 : P 0 a0) (w0 : Wk G (Iv 0 a0))
    (turn : ∀ (i : Nat) (a : α) (v : V), vs[i]? = some v → P i a →
      S g tu { nx := nxI g (Iv (i + 1)) (P (i + 1)), rt := D.rt, ct := nxI g (Iv (i + 1)) (P (i + 1)), bk := tw D } ((Iv i a).set x (.raw v)))
    (done : ∀ a, P vs.length a → S g tw D (Iv vs.length a)) : S g (tSeq (tFor (iAny g.K (tVar j)) (gName x) tu) tw) D G := s_forR (D := { D with nx := tw D }) Iv P hj hp a0 p0 w0 turn done
/-- constants that are no data -/
def Con (ta : TA) (vs : List V) : Prop := ∀ (σ : L2.St) (H : Hp) (Q : List V → Hp → Prop), Q vs H → ta σ H Q
theorem con_nil : Con tNil [] := fun σ H Q q => q
theorem con_cons {v : V} (h : Con ta vs) : Con (tCons (tC v) ta) (v :: vs) := fun σ H Q q => h σ H (fun ws H1 => Q (v :: ws) H1) q
theorem e_callST {R : Hp → List Sl → PyData → Prop} {Ek : XK} (c : Con t1 vs) (lv : vs.length ≤ 1000) (h : AS g ta G Gs) (r : ∀ F p, Ex g.Fl F → SqT g.K F p vs → R F (.raw (.ref p) :: Gs) d) : E g (tCall (spS g.K g.T R) [] Ek (tCons (tTup t1) ta)) G d := fun σ F H hh Q q => by
  refine c σ H _ ⟨Nat.le_trans lv (by decide), fun p hp => ?_⟩
  have st := Stp.new (o := .tup vs) hh.st.i hp fun _ z => by cases z
  refine h σ _ _ (hh.mono st) _ fun ws F2 H2 s2 d2 => ?_
  show spS g.K g.T R ((.ref p :: ws) ++ []) H2 Q Ek
  rw [List.append_nil]
  have hm := hh.mono (st.trans s2)
  exact ⟨F2, .raw (.ref p) :: Gs, d, s2.i, hm.tab, .raw d2, r F2 p hm.lo (s2.f.t (.inl (.inl upd_same))), fun v F3 H3 s3 d3 => q v F3 H3 ((st.trans s2).trans s3) d3⟩
end
end DW

/-! a tuple of unlike defs: each called by the slot that holds it -/
namespace DW
open PySem PySem.Spec PyProof.Rows L2
section
variable {P : Program} {w : World} {K : PySem.W.Frag} {mg : Str → Option Value} {base : Heap} {k j : Nat} {nm : Str} {ps : List Str} {sp sp' : Sp} {f : Addr} {fd : FuncData} {Tb : List Addr}
theorem FnOk_mono {CX : CXT} (F : FnOk P w K mg base CX j f fd ps sp) (h : j ≤ k) : FnOk P w K mg base CX k f fd ps sp :=
  ⟨F.len, fun A outer s H args us vs Q E hr => F.run A outer s H args us vs Q E (hr.mono h)⟩
theorem FnOk_weak {CX : CXT} (F : FnOk P w K mg base CX k f fd ps sp) (h : ∀ vs H Q E, sp' vs H Q E → sp vs H Q E) : FnOk P w K mg base CX k f fd ps sp' :=
  ⟨fun vs H Q E z => F.len vs H Q E (h _ _ _ _ z), fun A outer s H args us vs Q E hr e b v z => F.run A outer s H args us vs Q E hr e b v (h _ _ _ _ z)⟩
theorem Df_mono (D : Df P w K mg base j nm ps sp) (h : j ≤ k) : Df P w K mg base k nm ps sp := by
  obtain ⟨f, fd, F, a, b, c⟩ := D.ex
  exact ⟨f, fd, FnOk_mono F h, a, b, c⟩
theorem Df_weak {R R' : List PyData → PyData → Prop} (D : Df P w K mg base k nm ps (spD K Tb R)) (h : ∀ ds d, R' ds d → R ds d) : Df P w K mg base k nm ps (spD K Tb R') := by
  obtain ⟨f, fd, F, a, b, c⟩ := D.ex
  refine ⟨f, fd, FnOk_weak F (fun vs H Q E z => ?_), a, b, c⟩
  obtain ⟨F0, ds, d, x1, x2, x3, x4, x5⟩ := z
  exact ⟨F0, ds, d, x1, x2, x3, h _ _ x4, x5⟩
open Classical in
/-- the promise of the def at that address, told by a row of names -/
noncomputable def fL (mg : Str → Option Value) (L : List (Str × Sp)) : Addr → Option Sp := fun f =>
  if h : ∃ e ∈ L, mg e.1 = some (.ref f) then some h.choose.2 else none
theorem fL_at {L : List (Str × Sp)} (un : ∀ e ∈ L, ∀ e' ∈ L, mg e.1 = mg e'.1 → e.2 = e'.2) {e : Str × Sp} (he : e ∈ L) (hm : mg e.1 = some (.ref f)) : fL mg L f = some e.2 := by
  have h : ∃ e ∈ L, mg e.1 = some (.ref f) := ⟨e, he, hm⟩
  unfold fL
  rw [dif_pos h, un _ h.choose_spec.1 e he (h.choose_spec.2.trans hm.symm)]
theorem held_ofL {L : List (Str × Sp)} (D : ∀ e ∈ L, Df P w K mg base k e.1 ps e.2) : ∀ f sp', fL mg L f = some sp' → Held P w K mg base k f sp' := fun f sp' h => by
  unfold fL at h
  split at h
  · next hx =>
    cases h
    obtain ⟨h1, h2⟩ := hx.choose_spec
    generalize hx.choose = e at h1 h2 ⊢
    obtain ⟨f0, fd, F, hm, hk, hb⟩ := (D e h1).ex
    have e1 : some (Value.ref f0) = some (.ref f) := hm.symm.trans h2
    cases e1
    exact ⟨fd, ps, F, hk, hb⟩
  · cases h
end
theorem e_callAS {g : Gd} {G : List Sl} {ta : TA} {ds : List PyData} {d : PyData} {i : Nat} {f : Addr} {S : Addr → Option Sp} {R : List PyData → PyData → Prop} (hi : G[i]? = some (.raw (.ref f))) (hs : S f = some (spD g.K g.T R)) (h : A g ta G ds) (r : R ds d) : E g (tCallA i S ta) G d := fun σ F H hh Q q => by
  obtain ⟨o, eo, ok⟩ := hh.at_ hi
  obtain rfl : o = some (.ref f) := ok
  exact ⟨f, _, eo, hs, h σ F H hh _ fun vs F1 H1 s1 d1 => ⟨F1, ds, d, s1.i, (hh.mono s1).tab, d1, r, fun v F2 H2 s2 d2 => q v F2 H2 (s1.trans s2) d2⟩⟩
end DW

/-! own exceptions whose __init__(self, x, y) keeps two fields -/
namespace DW
open PySem PySem.Spec PyProof.Rows L2
structure XiOk2 (P : Program) (w : World) (K : PySem.W.Frag) (mg : Str → Option Value) (base : Heap) (x : Str) (C : Addr) (f h : Str) : Prop where
  gC : mg x = some (.ref C)
  T : OexC K C
  noF : PySem.W.findIn K (.ref C) f = some none
  noH : PySem.W.findIn K (.ref C) h = some none
  ini : ∃ (fI : Addr) (fd : FuncData) (ps : List Str), PySem.W.findIn K (.ref C) "__init__" = some (some (.ref fI)) ∧ PySem.W.typeIn K (.ref fI) = some (.type "function") ∧ FnOk P w K mg base CX0 1 fI fd ps (spI2 C f h) ∧ Binds K fd ps []
section
variable {P : Program} {w : World} {K : PySem.W.Frag} {mg : Str → Option Value} {base : Heap} {C : Addr} {f h x qual p q : Str} {st : Stmt} {fI : Addr} {fd : FuncData}
theorem init_ok2 (F : Fun K "__init__" qual st fI fd) (Sc : FnScope ["self", p, q] ["self", p, q] (defScope st)) (hC : OexC K C) (hf : PySem.W.findIn K (.ref C) f = some none) (hh : PySem.W.findIn K (.ref C) h = some none)
    (body : ∀ (cdv : Value) (A : Around) (outer : List Env) (s : Shared) (H : Hp) (E : XK), PSs (cxOf CX0 P w K mg base ["self", p, q] qual (defScope st) fI cdv A outer s H E).nox (defBody st) (tSeq (tOst K f (tVar 0) (tVar 1)) (tOst K h (tVar 0) (tVar 2)))) :
    FnOk P w K mg base CX0 1 fI fd ["self", p, q] (spI2 C f h) :=
  F.ok Sc (fun vs H Q E z => by obtain ⟨a, v, u, rfl, _⟩ := z; rfl) fun cdv A outer s H vs Q E hr z => ⟨_, body cdv A outer s H E, init2_t (n1 := "self") (n2 := p) (n3 := q) (Ek := E) hC hf hh z⟩
end
theorem ps_raiseI2 {X : Cx} {x f h : Str} {C : Addr} {e e2 : Expr} {ta : TA} {k : Nat} {p pos pos2 : Pos} {W : WX} (hc : X.calm = true) (T : XiOk2 X.prog X.w X.K X.mg X.base x C f h) (hr : Room k X.A) (hk : 2 ≤ k) (tk : Takes X W) (hg : Gl X x) (ha : PA X (e :: [e2]) ta) (hdb : (x == ("__debug__" : Str)) = false := by decide)
    (he : starEach (e :: [e2]) X.env = (false, eval e X.env) :: starEach [e2] X.env := by rfl) (hpl : (backTo pos (starEach [e2] X.env)).any (·.1) = false := by rfl) :
    PS X (.Raise (some (.Call (.Name x p) (e :: [e2]) [] pos)) none pos2) (fun _ σ H => tMkO C (spI2 C f h) [] ta σ H fun cls d H' => W cls d σ H') := by
  obtain ⟨fI, fd, ps, iC, tI, F1, hb⟩ := T.ini
  exact ps_raise hc tk (pmk_oex (CX := CX0) T.T iC tI F1 (hr.mono hk) hb .nil (fun _ _ _ _ _ _ _ z => z.elim) hg T.gC ha hdb he hpl)
theorem xi_names2 {X : Cx} {x f h : Str} {C : Addr} (T : XiOk2 X.prog X.w X.K X.mg X.base x C f h) (hg : Gl X x) (hd : (x == ("__debug__" : Str)) = false := by decide) : Names X x (.ref C) := ⟨hg, hd, .inl T.gC⟩
/-- int of a text of one digit -/
def rIntS : List V → Hp → VK → Prop := fun xs H Q => ∃ a n, xs = [.str a] ∧ PySem.intText? a = some n ∧ a.length ≤ 640 ∧ Q (.int n) H
theorem uIntS {X : Cx} : CallR X (.type "int") rIntS := call_int_str
theorem dig_val : ∀ c ∈ ("0123456789" : Str).cps.toList, PySem.intText? ⟨#[c]⟩ = some ((c : Int) - 48) := by decide +kernel
theorem int_dg {g : Gd} {c : Nat} (h : c ∈ ("0123456789" : Str).cps.toList) : C1 g rIntS [.str ⟨#[c]⟩] (.int ((c : Int) - 48)) := fun vs H hd Q q => by
  cases hd with
  | cons a t => cases t; cases a; exact ⟨_, _, rfl, dig_val c h, by show 1 ≤ 640; decide, q _ (.int _)⟩
end DW

/-! for with break: a turn knows that the good part has grown, so that what stands behind the loop can be done at the break -/
namespace DW
open PySem PySem.Spec PyProof.Rows L2
section
variable {g : Gd} {G : List Sl} {tg : TG} {tu tw : TS} {D : Ends} {ds : List PyData} {nx : L2.St → Hp → Prop} {F1 : Hp}
theorem hh_up (e : Ex g.Fl F1) {σ : L2.St} {F H : Hp} (h : Holds { g with Fl := F1 } G σ F H) : Holds g G σ F H := ⟨h.len, h.st, h.sl, h.apart, h.tab, e.trans h.lo⟩
theorem n_up (e : Ex g.Fl F1) (h : N g nx G) : N { g with Fl := F1 } nx G := fun σ F H hh => h σ F H (hh_up e hh)
theorem s_brkU (e : Ex g.Fl F1) {D1 : Ends} (h : N g D1.bk G) : S { g with Fl := F1 } tBreak D1 G := s_brk (n_up e h)
theorem s_forB {α : Type} {wi : TI} (Iv : Nat → α → List Sl) (P : Nat → α → Prop) (it : IT g wi G ds) (a0 : α) (p0 : P 0 a0) (w0 : Wk G (Iv 0 a0))
    (turn : ∀ F1, Ex g.Fl F1 → ∀ (i : Nat) (a : α) (d : PyData), ds[i]? = some d → P i a → ∃ G1 ix, Tg { g with Fl := F1 } tg d (Iv i a) G1 ix ∧
      S { g with Fl := F1 } tu { D with nx := nxI { g with Fl := F1 } (Iv (i + 1)) (P (i + 1)), ct := nxI { g with Fl := F1 } (Iv (i + 1)) (P (i + 1)), bk := D.nx } G1)
    (done : ∀ a, P ds.length a → N g D.nx (Iv ds.length a)) : S g (tFor wi tg tu) D G := fun σ F H hh => it σ F H hh _ fun J F1 H1 s1 W => by
  have el : Ex g.Fl F1 := hh.lo.trans s1.f
  refine ⟨fun i m σ H => m = ds.length - i ∧ i ≤ ds.length ∧ nxI { g with Fl := F1 } (Iv i) (P i) σ H, ⟨ds.length, by simp, Nat.zero_le _, a0, p0, F1, ?_⟩, ?_⟩
  · have h1 := (hh.mono s1).wk w0
    exact ⟨h1.len, h1.st, h1.sl, h1.apart, h1.tab, Ex.refl F1⟩
  · rintro i m σ2 H2 ⟨rfl, hi, a, p, F2, hh2⟩
    by_cases hlt : i < ds.length
    · refine .inr ⟨W.go i F2 H2 hh2.lo hh2.st.i hlt, nxI { g with Fl := F1 } (Iv (i + 1)) (P (i + 1)), fun σ' H' q => ⟨ds.length - (i + 1), by omega, rfl, hlt, q⟩, fun x H' y => ?_⟩
      obtain ⟨F3, s3, d3⟩ := W.yld i F2 H2 x H' ds[i] hh2.lo hh2.st.i (List.getElem?_eq_getElem hlt) y
      obtain ⟨G1, ix, ht, hs⟩ := turn F1 el i a ds[i] (List.getElem?_eq_getElem hlt) p
      exact ht x σ2 F3 H' (hh2.mono s3) d3 _ fun σ' h' _ => hs σ' F3 H' h'
    · have e : i = ds.length := by omega
      subst e
      exact .inl ⟨W.stop F2 H2 hh2.lo hh2.st.i, done a p σ2 F2 H2 (hh_up el hh2)⟩
theorem q_forB {α : Type} {wi : TI} (Iv : Nat → α → List Sl) (P : Nat → α → Prop) (it : IT g wi G ds) (a0 : α) (p0 : P 0 a0) (w0 : Wk G (Iv 0 a0))
    (turn : ∀ F1, Ex g.Fl F1 → ∀ (i : Nat) (a : α) (d : PyData), ds[i]? = some d → P i a → ∃ G1 ix, Tg { g with Fl := F1 } tg d (Iv i a) G1 ix ∧
      S { g with Fl := F1 } tu { nx := nxI { g with Fl := F1 } (Iv (i + 1)) (P (i + 1)), rt := D.rt, ct := nxI { g with Fl := F1 } (Iv (i + 1)) (P (i + 1)), bk := tw D } G1)
    (done : ∀ a, P ds.length a → S g tw D (Iv ds.length a)) : S g (tSeq (tFor wi tg tu) tw) D G := s_forB (D := { D with nx := tw D }) Iv P it a0 p0 w0 turn done
end
end DW

/-! own objects whose fields change: slot .ob (insC ..), e.f, e.f = x, methods that change self (spM, eg_meth) -/
namespace DW
open PySem PySem.Spec PyProof.Rows L2
/-- the own object a: class C, its dict dx, its fields by data -/
def insC (K : PySem.W.Frag) (a C dx : Addr) (fs : List (Str × PyData)) : Addr → Hp → HO → Prop := fun p F u => p = a ∧ ∃ ws, u = .ins C dx ws ∧ FsOk K F ws fs
def ptFd : Str → PyData → List (Str × PyData) → List (Str × PyData)
  | n, d, [] => [(n, d)]
  | n, d, (m, x) :: fs => if m = n then (m, d) :: fs else (m, x) :: ptFd n d fs
section
variable {g : Gd} {G : List Sl} {σ : L2.St} {F H : Hp} {i : Nat} {a C dx : Addr} {fs fs' : List (Str × PyData)} {n : Str} {d : PyData} {te : TE} {D : Ends} {tw : TS}
theorem ins_own (hh : Holds g G σ F H) (h : G[i]? = some (.ob (insC g.K a C dx fs))) : ∃ ws, σ[i]? = some (some (.ref a)) ∧ g.H0 a = none ∧ F a = none ∧ H a = some (.ins C dx ws) ∧ FsOk g.K F ws fs := by
  obtain ⟨o, eo, p, u, rfl, h0, hF, hH, nt, c⟩ := hh.at_ h
  obtain ⟨rfl, ws, rfl, f⟩ := c F (Ex.refl F)
  exact ⟨ws, eo, h0, hF, hH, f⟩
theorem fs_none : ∀ {K : PySem.W.Frag} {F : Hp} {ws : List (Str × V)} {fs : List (Str × PyData)}, FsOk K F ws fs → fs.lookup n = none → ws.lookup n = none
  | _, _, [], [], _, _ => rfl
  | _, _, [], _ :: _, h, _ => by cases h.ns
  | _, _, _ :: _, [], h, _ => by cases h.ns
  | K, F, (m, v) :: ws, (m', x) :: fs, h, e => by
    have e1 := h.ns
    rw [List.map_cons, List.map_cons] at e1
    injection e1 with e1 e2
    have e1 : m = m' := e1
    subst e1
    cases h.ds with
    | cons c t =>
      rw [List.lookup_cons] at e ⊢
      cases q : n == m with
      | true => rw [q] at e; cases e
      | false => rw [q] at e; exact fs_none ⟨e2, t⟩ e
theorem fs_put {v : V} : ∀ {K : PySem.W.Frag} {F : Hp} {ws : List (Str × V)} {fs : List (Str × PyData)}, FsOk K F ws fs → Dp K F v d → FsOk K F (putF n v ws) (ptFd n d fs)
  | _, _, [], [], _, hd => ⟨rfl, .cons hd .nil⟩
  | _, _, [], _ :: _, h, _ => by cases h.ns
  | _, _, _ :: _, [], h, _ => by cases h.ns
  | K, F, (m, u) :: ws, (m', x) :: fs, h, hd => by
    have e1 := h.ns
    rw [List.map_cons, List.map_cons] at e1
    injection e1 with e1 e2
    have e1 : m = m' := e1
    subst e1
    cases h.ds with
    | cons c t =>
      have ih := fs_put (K := K) (F := F) (ws := ws) (fs := fs) (v := v) ⟨e2, t⟩ hd
      by_cases hm : m = n
      · have ep : putF n v ((m, u) :: ws) = (m, v) :: ws := by first | (show (if m = n then _ else _) = _; rw [if_pos hm]) | (show (if (m == n) = true then _ else _) = _; rw [if_pos (by rw [hm]; exact beq_self_eq_true n)]) | (simp [putF, hm])
        have ed : ptFd n d ((m, x) :: fs) = (m, d) :: fs := if_pos hm
        rw [ep, ed]
        exact ⟨by rw [List.map_cons, List.map_cons, e2], .cons hd t⟩
      · have ep : putF n v ((m, u) :: ws) = (m, u) :: putF n v ws := by first | (show (if m = n then _ else _) = _; rw [if_neg hm]) | (simp [putF, hm])
        have ed : ptFd n d ((m, x) :: fs) = (m, x) :: ptFd n d fs := if_neg hm
        rw [ep, ed]
        exact ⟨by rw [List.map_cons, List.map_cons, ih.ns], .cons c ih.ds⟩
theorem fs_len {K : PySem.W.Frag} {F : Hp} {ws : List (Str × V)} {fs : List (Str × PyData)} (h : FsOk K F ws fs) : ws.length = fs.length := by
  have := congrArg List.length h.ns
  rw [List.length_map, List.length_map] at this
  exact this
/-- e.n -/
theorem e_fldM (h : G[i]? = some (.ob (insC g.K a C dx fs))) (hC : Cls g.K C) (hn : NoAttr g.K C n) (hl : fs.lookup n = some d) : E g (tFld g.K (tVar i) n) G d := fun σ F H hh Q q => by
  obtain ⟨ws, eo, h0, hF, hH, f⟩ := ins_own hh h
  obtain ⟨v, e1, e2⟩ := FsOk.get f hl
  exact ⟨.ref a, eo, a, C, dx, ws, v, rfl, hH, hC, hn, e1, q v F H (Stp.refl hh.st.i) e2⟩
theorem ins_nt {C dx : Addr} {ws : List (Str × V)} : ∀ ps, HO.ins C dx ws ≠ .tbl ps := fun _ z => by cases z
/-- e.n = x -/
theorem s_fldM (h : G[i]? = some (.ob (insC g.K a C dx fs))) (he : E g te G d) (hC : Cls g.K C) (hn : NoAttr g.K C n) (hl : fs.length < 1000) (k : N g D.nx (G.set i (.ob (insC g.K a C dx (ptFd n d fs))))) : S g (sFld g.K (tVar i) te n) D G := fun σ F H hh => he σ F H hh _ fun v F1 H1 s1 d1 => by
  have hh1 := hh.mono s1
  obtain ⟨ws, eo, h0, hF, hH, f⟩ := ins_own hh1 h
  refine ⟨.ref a, eo, a, C, dx, ws, rfl, hH, hC, hn, by rw [fs_len f]; exact hl, k _ F1 _ ?_⟩
  exact hh1.obMut h eo h0 hF hH ins_nt ins_nt fun F' e => ⟨rfl, _, rfl, fs_put (f.mono e) (e.dp _ _ d1)⟩
theorem q_fldM (h : G[i]? = some (.ob (insC g.K a C dx fs))) (he : E g te G d) (hC : Cls g.K C) (hn : NoAttr g.K C n) (hl : fs.length < 1000) (k : S g tw D (G.set i (.ob (insC g.K a C dx (ptFd n d fs))))) : S g (tSeq (sFld g.K (tVar i) te n) tw) D G := s_fldM (D := { D with nx := tw D }) h he hC hn hl k
/-- e.n op= x, whole numbers -/
theorem s_augM {f : Int → Int → Int} {x y : Int} (h : G[i]? = some (.ob (insC g.K a C dx fs))) (hx : fs.lookup n = some (.int x)) (he : E g te G (.int y)) (hC : Cls g.K C) (hn : NoAttr g.K C n) (hl : fs.length < 1000) (k : N g D.nx (G.set i (.ob (insC g.K a C dx (ptFd n (.int (f x y)) fs))))) : S g (sFldAug g.K (tVar i) te (ipI f) n) D G := fun σ F H hh => by
  obtain ⟨ws, eo, h0, hF, hH, fo⟩ := ins_own hh h
  obtain ⟨v, e1, e2⟩ := FsOk.get fo hx
  cases e2
  refine ⟨.ref a, eo, a, C, dx, ws, _, rfl, hH, hC, hn, e1, he σ F H hh _ fun v F1 H1 s1 d1 => ?_⟩
  cases d1
  have hh1 := hh.mono s1
  obtain ⟨ws1, eo1, h01, hF1, hH1, f1⟩ := ins_own hh1 h
  refine ⟨x, y, rfl, rfl, dx, ws1, hH1, by rw [fs_len f1]; exact hl, k _ F1 _ ?_⟩
  exact hh1.obMut h eo1 h01 hF1 hH1 ins_nt ins_nt fun F' e => ⟨rfl, _, rfl, fs_put (f1.mono e) (.int _)⟩
theorem q_augM {f : Int → Int → Int} {x y : Int} (h : G[i]? = some (.ob (insC g.K a C dx fs))) (hx : fs.lookup n = some (.int x)) (he : E g te G (.int y)) (hC : Cls g.K C) (hn : NoAttr g.K C n) (hl : fs.length < 1000) (k : S g tw D (G.set i (.ob (insC g.K a C dx (ptFd n (.int (f x y)) fs))))) : S g (tSeq (sFldAug g.K (tVar i) te (ipI f) n) tw) D G := s_augM (D := { D with nx := tw D }) h hx he hC hn hl k
end
/-- the promise of a method that may change self: (fields, arguments) ↦ (fields, answer) -/
def spM (K : PySem.W.Frag) (Tb : List Addr) (C : Addr) (R : List (Str × PyData) → List PyData → List (Str × PyData) → PyData → Prop) : Sp := fun vs H Q _ => ∃ F a dx ws fs us ds fs' d, vs = .ref a :: us ∧ Sub F H ∧ F a = none ∧ (∀ P ∈ Tb, GxR.TabG H P) ∧ H a = some (.ins C dx ws) ∧ FsOk K F ws fs ∧ DpAll K F us ds ∧ R fs ds fs' d ∧
  ∀ v F' H' ws', Stp F (L2.del H a) F' H' → H' a = some (.ins C dx ws') → F' a = none → FsOk K F' ws' fs' → Dp K F' v d → Q v H'
def RtM (g : Gd) (a C dx : Addr) (Q : VK) (fs' : List (Str × PyData)) (d : PyData) : Prop := ∀ v F' H' ws', Stp g.F0 g.H0 F' H' → H' a = some (.ins C dx ws') → F' a = none → FsOk g.K F' ws' fs' → Dp g.K F' v d → Q v H'
section
variable {g : Gd} {G : List Sl} {σ : L2.St} {F H : Hp} {i : Nat} {a C dx : Addr} {fs fs' : List (Str × PyData)} {m : Str} {d : PyData} {ds : List PyData} {te : TE} {ta : TA} {D : Ends} {tw : TS} {Q : VK}
/-- return e: self stands as fs' -/
theorem s_retM (he : E g te G d) (h0 : G[0]? = some (.ob (insC g.K a C dx fs'))) (k : RtM g a C dx D.rt fs' d) : S g (tRet te) D G := fun σ F H hh => he σ F H hh _ fun v F1 H1 s1 d1 => by
  have hh1 := hh.mono s1
  obtain ⟨ws, eo, _, hF, hH, f⟩ := ins_own hh1 h0
  exact k v F1 H1 ws hh1.st hH hF f d1
/-- the body's end -/
theorem n_retM (h0 : G[0]? = some (.ob (insC g.K a C dx fs'))) (k : RtM g a C dx Q fs' .none) : N g (fun _ H' => Q .non H') G := fun σ F H hh => by
  obtain ⟨ws, eo, _, hF, hH, f⟩ := ins_own hh h0
  exact k .non F H ws hh.st hH hF f .non
theorem del_same {H : Hp} {a : Addr} : L2.del H a a = none := if_pos rfl
theorem del_ne {H : Hp} {a b : Addr} (h : b ≠ a) : L2.del H a b = H b := if_neg h
theorem upd_back {H : Hp} {a : Addr} {o o' : HO} (h : H a = some o) : upd (upd H a o') a o = H := by
  funext b
  by_cases hb : b = a
  · rw [hb, upd_same, h]
  · rw [upd_ne hb, upd_ne hb]
/-- o.m(..): slot i's object goes from fs to fs' -/
theorem eg_meth {R : List (Str × PyData) → List PyData → List (Str × PyData) → PyData → Prop} {Ek : XK} (h : G[i]? = some (.ob (insC g.K a C dx fs))) (ha : A g ta G ds) (hm : fs.lookup m = none) (r : R fs ds fs' d) :
    EG g i (tMeth C m (spM g.K g.T C R) [] Ek (tVar i) ta) G (.ob (insC g.K a C dx fs')) d := fun σ F H hh Q q => by
  obtain ⟨ws, eo, h0, hF, hH, fo⟩ := ins_own hh h
  refine ⟨.ref a, eo, a, dx, ws, rfl, hH, fs_none fo hm, ha σ F H hh _ fun us F1 H1 s1 d1 => ?_⟩
  have hh1 := hh.mono s1
  obtain ⟨ws1, eo1, h01, hF1, hH1, f1⟩ := ins_own hh1 h
  rw [List.append_nil]
  refine ⟨F1, a, dx, ws1, fs, us, ds, fs', d, rfl, hh1.st.i, hF1, hh1.tab, hH1, f1, d1, r, fun v F2 H2 ws2 s2 hH2 hF2 fo2 d2 => ?_⟩
  have ext : ∀ b o, H1 b = some o → b ≠ a → L2.del H1 a b = some o := fun b o e hb => by rw [del_ne hb]; exact e
  -- the step with the object as it was
  have st : Stp F1 H1 F2 (upd H2 a (.ins C dx ws1)) := by
    refine ⟨s2.f, ⟨fun b o e nt => ?_, s2.i.nt⟩, fun b o e nt => ?_, fun b o e => ?_, fun P t => ?_, fun b o e nF => ?_⟩
    · have hb : b ≠ a := fun z => by rw [z, hF2] at e; cases e
      rw [upd_ne hb]; exact s2.i.ex b o e nt
    · by_cases hb : b = a
      · rw [hb] at e ⊢; rw [upd_same]; rw [hH1] at e; exact e
      · rw [upd_ne hb]; exact s2.h b o (ext b o e hb) nt
    · by_cases hb : b = a
      · rw [hb]; exact ⟨_, upd_same⟩
      · rw [upd_ne hb]; exact s2.s b o (ext b o e hb)
    · obtain ⟨ps, e, ok⟩ := t
      have hb : P ≠ a := fun z => by rw [z, hH1] at e; cases e
      obtain ⟨ps2, e2, ok2⟩ := s2.t P ⟨ps, ext P _ e hb, ok⟩
      exact ⟨ps2, by rw [upd_ne hb]; exact e2, ok2⟩
    · by_cases hb : b = a
      · rw [hb]; exact hF2
      · exact s2.n b o (ext b o e hb) nF
  have hh2 := hh1.mono st
  have fin := hh2.obMut h eo1 h01 hF2 upd_same ins_nt (ins_nt (C := C) (dx := dx) (ws := ws2)) (C' := insC g.K a C dx fs') fun F' e => ⟨rfl, ws2, rfl, fo2.mono e⟩
  rw [upd_back hH2] at fin
  refine q v F2 H2 (s1.q.trans ⟨s2.f, fun b o e nt q4 => ?_, fun b o e => ?_, st.n⟩) fin d2
  · exact s2.h b o (ext b o e fun z => q4 (by rw [z]; exact eo1)) nt
  · by_cases hb : b = a
    · rw [hb]; exact ⟨_, hH2⟩
    · exact s2.s b o (ext b o e hb)
/-- e.n = o.m(..) and the like: the value changes slot i, then the field is set -/
theorem s_fldMG {n : Str} (he : EG g i te G (.ob (insC g.K a C dx fs)) d) (hi : i < G.length) (hC : Cls g.K C) (hn : NoAttr g.K C n) (hl : fs.length < 1000) (k : N g D.nx (G.set i (.ob (insC g.K a C dx (ptFd n d fs))))) : S g (sFld g.K (tVar i) te n) D G := fun σ F H hh => he σ F H hh _ fun v F1 H1 s1 hh1 d1 => by
  have h : (G.set i (.ob (insC g.K a C dx fs)))[i]? = some (.ob (insC g.K a C dx fs)) := List.getElem?_set_self hi
  obtain ⟨ws, eo, h0, hF, hH, f⟩ := ins_own hh1 h
  refine ⟨.ref a, eo, a, C, dx, ws, rfl, hH, hC, hn, by rw [fs_len f]; exact hl, k _ F1 _ ?_⟩
  have z := hh1.obMut h eo h0 hF hH ins_nt ins_nt (C' := insC g.K a C dx (ptFd n d fs)) fun F' e => ⟨rfl, _, rfl, fs_put (f.mono e) (e.dp _ _ d1)⟩
  rw [List.set_set] at z
  exact z
theorem q_fldMG {n : Str} (he : EG g i te G (.ob (insC g.K a C dx fs)) d) (hi : i < G.length) (hC : Cls g.K C) (hn : NoAttr g.K C n) (hl : fs.length < 1000) (k : S g tw D (G.set i (.ob (insC g.K a C dx (ptFd n d fs))))) : S g (tSeq (sFld g.K (tVar i) te n) tw) D G := s_fldMG (D := { D with nx := tw D }) he hi hC hn hl k
/-- return o.m(..) where o is self -/
theorem s_retMG (he : EG g 0 te G (.ob (insC g.K a C dx fs')) d) (hi : 0 < G.length) (k : RtM g a C dx D.rt fs' d) : S g (tRet te) D G := fun σ F H hh => he σ F H hh _ fun v F1 H1 s1 hh1 d1 => by
  obtain ⟨ws, eo, _, hF, hH, f⟩ := ins_own hh1 (List.getElem?_set_self hi)
  exact k v F1 H1 ws hh1.st hH hF f d1
end
def startM (n : Nat) (s : Sl) (ds : List PyData) : List Sl := s :: ds.map .fz ++ List.replicate (n - (ds.length + 1)) .un
end DW

/-! methods: their defs (mt_M), calls (pe_mtM, pe_mtM0), objects made (pe_mkM, q_makeM) -/
namespace DW
open PySem PySem.Spec PyProof.Rows L2
def beginM (N : List Str) (s : Sl) (ds : List PyData) : List Sl := s :: startG (N.length - 1) ds
theorem start_no {n : Nat} {ds : List PyData} {s : Sl} {j : Nat} (e : (startG n ds)[j]? = some s) : s.mine = false := by
  unfold startG at e
  rcases List.mem_append.mp (List.mem_of_getElem? e) with h | h
  · obtain ⟨d, _, rfl⟩ := List.mem_map.mp h; rfl
  · rw [(List.mem_replicate.mp h).2]; rfl
theorem sl_H0 {K : PySem.W.Frag} {H0 H0' F H : Hp} {o : Option V} {s : Sl} (m : s.mine = false) (h : SlOk K H0 F H o s) : SlOk K H0' F H o s := by
  cases s with
  | un => exact h
  | fz d => exact h
  | ow ds => cases m
  | raw v => exact h
  | od k => cases m
  | fk k => exact h
  | ob C => cases m
theorem holds_startM {K : PySem.W.Frag} {Tb : List Addr} {F H : Hp} {a C dx : Addr} {ws : List (Str × V)} {fs : List (Str × PyData)} {us : List V} {ds : List PyData} {n0 : Str} {N : List Str} (sb : Sub F H) (hF : F a = none) (ht : ∀ P ∈ Tb, GxR.TabG H P) (hH : H a = some (.ins C dx ws)) (fo : FsOk K F ws fs) (hd : DpAll K F us ds) :
    Holds ⟨K, Tb, F, L2.del H a, F⟩ (beginM (n0 :: N) (.ob (insC K a C dx fs)) ds) (L2.start (n0 :: N) (.ref a :: us)) F H := by
  have hs := holds_start (K := K) (Tb := Tb) (Nn := N) sb ht hd
  have es : L2.start (n0 :: N) (.ref a :: us) = some (V.ref a) :: L2.start N us := by
    unfold L2.start
    rw [List.map_cons, List.length_cons, List.length_cons, Nat.add_sub_add_right]
    rfl
  have eb : beginM (n0 :: N) (.ob (insC K a C dx fs)) ds = .ob (insC K a C dx fs) :: startG N.length ds := rfl
  rw [es, eb]
  refine ⟨by rw [List.length_cons, List.length_cons, hs.len], (show Stp F (L2.del H a) F H from ⟨Ex.refl F, sb, fun b o e n => ?_, fun b o e => ?_, fun P t => ?_, fun b o _ n => n⟩), fun j s o e1 e2 => ?_, fun j k s t p e1 e2 m1 m2 _ _ => ?_, ht, Ex.refl F⟩
  · by_cases hb : b = a
    · rw [hb, del_same] at e; cases e
    · rw [del_ne hb] at e; exact e
  · by_cases hb : b = a
    · rw [hb, del_same] at e; cases e
    · rw [del_ne hb] at e; exact ⟨o, e⟩
  · obtain ⟨ps, e, ok⟩ := t
    by_cases hb : P = a
    · rw [hb, del_same] at e; cases e
    · rw [del_ne hb] at e; exact ⟨ps, e, ok⟩
  · cases j with
    | zero =>
      cases e1; cases e2
      exact ⟨a, _, rfl, del_same, hF, hH, ins_nt, fun F' e => ⟨rfl, ws, rfl, fo.mono e⟩⟩
    | succ j =>
      have e1 : (startG N.length ds)[j]? = some s := e1
      have e2 : (L2.start N us)[j]? = some o := e2
      exact sl_H0 (start_no e1) (hs.sl j s o e1 e2)
  · cases j with
    | zero =>
      cases k with
      | zero => rfl
      | succ k =>
        have e2 : (startG N.length ds)[k]? = some t := e2
        rw [start_no e2] at m2; cases m2
    | succ j =>
      have e1 : (startG N.length ds)[j]? = some s := e1
      rw [start_no e1] at m1; cases m1
/-- what the text says of a method -/
structure MtOk (P : Program) (w : World) (K : PySem.W.Frag) (mg : Str → Option Value) (base : Heap) (k : Nat) (C : Addr) (m : Str) (ps : List Str) (sp : Sp) : Prop where
  ex : ∃ f fd, Meth K C m f ∧ FnOk P w K mg base CX0 k f fd ps sp ∧ Binds K fd ps []
section
variable {P : Program} {w : World} {K : PySem.W.Frag} {mg : Str → Option Value} {base : Heap} {m qual n0 : Str} {st : Stmt} {f C : Addr} {fd : FuncData} {N ps : List Str} {k : Nat} {Tb : List Addr}
theorem fn_M (F : Fun K m qual st f fd) (Sc : FnScope (n0 :: N) ps (defScope st)) {R : List (Str × PyData) → List PyData → List (Str × PyData) → PyData → Prop} (hlen : ∀ fs ds fs' d, R fs ds fs' d → ds.length + 1 = ps.length)
    (body : ∀ (cdv : Value) (A : Around) (outer : List Env) (s : Shared) (H : Hp) (E : XK), Room k (A.deeper (envOfC qual (defScope st) s.heap.objs.size f cdv)) →
      ∃ t, PSs (cxOf CX0 P w K mg base (n0 :: N) qual (defScope st) f cdv A outer s H E).nox (defBody st) t ∧ ∀ (fs : List (Str × PyData)) (ds : List PyData) (fs' : List (Str × PyData)) (d : PyData) (F0 H0 : Hp) (a dx : Addr) (Q : VK), R fs ds fs' d → RtM ⟨K, Tb, F0, H0, F0⟩ a C dx Q fs' d →
        S ⟨K, Tb, F0, H0, F0⟩ t { nx := fun _ H' => Q .non H', rt := Q } (beginM (n0 :: N) (.ob (insC K a C dx fs)) ds)) :
    FnOk P w K mg base CX0 (k + 1) f fd ps (spM K Tb C R) := by
  refine F.ok Sc (fun vs H Q E h => ?_) (fun cdv A outer s H vs Q E hr h => ?_)
  · obtain ⟨F1, a, dx, ws, fs, us, ds, fs', d, rfl, _, _, _, _, _, hd, r, _⟩ := h
    rw [List.length_cons, dps_len hd]; exact hlen _ _ _ _ r
  · obtain ⟨F1, a, dx, ws, fs, us, ds, fs', d, rfl, sb, hF, ht, hH, fo, hd, r, q⟩ := h
    obtain ⟨t, h1, h2⟩ := body cdv A outer s H E hr
    exact ⟨t, h1, h2 fs ds fs' d F1 (L2.del H a) a dx Q r (fun v F' H' ws' s1 e1 e2 e3 e4 => q v F' H' ws' s1 e1 e2 e3 e4) _ F1 H (holds_startM sb hF ht hH fo hd)⟩
theorem mt_M (F : Fun K m qual st f fd) (Sc : FnScope (n0 :: N) ps (defScope st)) (hM : Meth K C m f) (hb : Binds K fd ps []) {R : List (Str × PyData) → List PyData → List (Str × PyData) → PyData → Prop} (hlen : ∀ fs ds fs' d, R fs ds fs' d → ds.length + 1 = ps.length)
    (body : ∀ (cdv : Value) (A : Around) (outer : List Env) (s : Shared) (H : Hp) (E : XK), Room k (A.deeper (envOfC qual (defScope st) s.heap.objs.size f cdv)) →
      ∃ t, PSs (cxOf CX0 P w K mg base (n0 :: N) qual (defScope st) f cdv A outer s H E).nox (defBody st) t ∧ ∀ (fs : List (Str × PyData)) (ds : List PyData) (fs' : List (Str × PyData)) (d : PyData) (F0 H0 : Hp) (a dx : Addr) (Q : VK), R fs ds fs' d → RtM ⟨K, Tb, F0, H0, F0⟩ a C dx Q fs' d →
        S ⟨K, Tb, F0, H0, F0⟩ t { nx := fun _ H' => Q .non H', rt := Q } (beginM (n0 :: N) (.ob (insC K a C dx fs)) ds)) :
    MtOk P w K mg base (k + 1) C m ps (spM K Tb C R) := ⟨f, fd, hM, fn_M F Sc hlen body, hb⟩
end
/-- o.m(..) -/
theorem pe_mtM {X : Cx} {k j : Nat} {C : Addr} {m : Str} {ps : List Str} {sp : Sp} {o e : Expr} {es : List Expr} {to : TE} {t : TA} {pos apos : Pos} {pl : Sem Bool} (M : MtOk X.prog X.w X.K X.mg X.base j C m ps sp) (hC : Cls X.K C) (hr : Room k X.A) (hj : j ≤ k) (ho : PE X o to) (ha : PA X (e :: es) t)
    (h1 : starEach (e :: es) X.env = (false, eval e X.env) :: starEach es X.env := by rfl) (h2 : (backTo pos (starEach es X.env)).any (·.1) = false := by rfl)
    (h3 : eval ((o.Attribute m apos).Call (e :: es) [] pos) X.env = (do
      let ov ← eval o X.env
      standAt apos.atName
      let (f, first) ← holding [ov] (getMethod ov m pl)
      callWith pos f first (backTo pos (starEach (e :: es) X.env)) (backToKw pos (keywordEach [] X.env))) := by rfl) : PE X ((o.Attribute m apos).Call (e :: es) [] pos) (tMeth C m sp [] E0 to t) := by
  obtain ⟨f, fd, hM, F, hb⟩ := M.ex
  exact pe_meth ho hC hM F (hr.mono hj) hb .nil pass0 ha h1 h2 h3
theorem pe_mtM0 {X : Cx} {k j : Nat} {C : Addr} {m : Str} {ps : List Str} {sp : Sp} {o : Expr} {to : TE} {pos apos : Pos} {pl : Sem Bool} (M : MtOk X.prog X.w X.K X.mg X.base j C m ps sp) (hC : Cls X.K C) (hr : Room k X.A) (hj : j ≤ k) (ho : PE X o to)
    (h3 : eval ((o.Attribute m apos).Call [] [] pos) X.env = (do
      let ov ← eval o X.env
      standAt apos.atName
      let (f, first) ← holding [ov] (getMethod ov m pl)
      callWith pos f first (backTo pos (starEach [] X.env)) (backToKw pos (keywordEach [] X.env))) := by rfl) : PE X ((o.Attribute m apos).Call [] [] pos) (tMeth C m sp [] E0 to tNil) := by
  obtain ⟨f, fd, hM, F, hb⟩ := M.ex
  exact pe_meth0 ho hC hM F (hr.mono hj) hb .nil pass0 h3
/-- what the text says of a class that is made by C(..): its __init__ -/
structure MkM (P : Program) (w : World) (K : PySem.W.Frag) (mg : Str → Option Value) (base : Heap) (k : Nat) (x : Str) (C : Addr) (ps : List Str) (sp : Sp) : Prop where
  gC : mg x = some (.ref C)
  ex : ∃ f fd, Mk K C f ∧ FnOk P w K mg base CX0 k f fd ps sp ∧ Binds K fd ps []
section
variable {g : Gd} {G : List Sl} {i : Nat} {C : Addr} {fs' : List (Str × PyData)} {ds : List PyData} {ta : TA} {D : Ends} {tw : TS} {R : List (Str × PyData) → List PyData → List (Str × PyData) → PyData → Prop} {Ek : XK}
/-- x = C(..) -/
theorem s_makeM (ha : A g ta G ds) (r : R [] ds fs' .none) (k : ∀ a dx, N g D.nx (G.set i (.ob (insC g.K a C dx fs')))) : S g (tAsg (tMake C (spM g.K g.T C R) [] Ek ta) (gName i)) D G := fun σ F H hh => ha σ F H hh _ fun us F1 H1 s1 d1 => by
  intro a dx ha0 hd0 hne
  rw [List.append_nil]
  have hh1 := hh.mono s1
  have st1 : Stp F1 H1 F1 (upd H1 dx (.own a)) := Stp.mine hh1.st.i hd0
  have ha1 : upd H1 dx (.own a) a = none := by rw [upd_ne (Ne.symm hne)]; exact ha0
  have st2 : Stp F1 (upd H1 dx (.own a)) F1 (upd (upd H1 dx (.own a)) a (.ins C dx [])) := Stp.mine st1.i ha1
  have hh2 := (hh1.mono st1).mono st2
  have hF : F1 a = none := hh1.st.i.free ha0
  refine ⟨F1, a, dx, [], [], us, ds, fs', .none, rfl, st2.i, hF, hh2.tab, upd_same, ⟨rfl, .nil⟩, d1, r, fun v F2 H2 ws2 s2 hH2 hF2 fo2 d2 => ?_⟩
  cases d2
  refine ⟨rfl, k a dx _ F2 H2 ?_⟩
  have ed : L2.del (upd (upd H1 dx (.own a)) a (.ins C dx [])) a = upd H1 dx (.own a) := by
    funext b
    by_cases hb : b = a
    · rw [hb, del_same, ha1]
    · rw [del_ne hb, upd_ne hb]
  rw [ed] at s2
  have st := st1.trans s2
  have hh3 := hh1.mono st
  exact hh3.set (s := .ob (insC g.K a C dx fs')) ⟨a, _, rfl, old_free hh1.st ha0, hF2, hH2, ins_nt, fun F' e => ⟨rfl, ws2, rfl, fo2.mono e⟩⟩ fun _ j t _ e1 m e2 => new_ok hh1 ha0 j ⟨t, e1, m⟩ e2
theorem q_makeM (ha : A g ta G ds) (r : R [] ds fs' .none) (k : ∀ a dx, S g tw D (G.set i (.ob (insC g.K a C dx fs')))) : S g (tSeq (tAsg (tMake C (spM g.K g.T C R) [] Ek ta) (gName i)) tw) D G := s_makeM (D := { D with nx := tw D }) ha r k
end
theorem pe_mkM {X : Cx} {k j : Nat} {C : Addr} {x : Str} {ps : List Str} {sp : Sp} {e : Expr} {es : List Expr} {t : TA} {p pos : Pos} (M : MkM X.prog X.w X.K X.mg X.base j x C ps sp) (hr : Room k X.A) (hj : j + 1 ≤ k) (hg : Gl X x) (ha : PA X (e :: es) t) (hdb : (x == ("__debug__" : Str)) = false := by decide)
    (he : starEach (e :: es) X.env = (false, eval e X.env) :: starEach es X.env := by rfl) (hpl : (backTo pos (starEach es X.env)).any (·.1) = false := by rfl) : PE X (.Call (.Name x p) (e :: es) [] pos) (tMake C sp [] E0 t) := by
  obtain ⟨f, fd, hM, F, hb⟩ := M.ex
  exact pe_make hM F (hr.mono hj) hg M.gC hb .nil pass0 ha hdb he hpl
theorem pe_mkM0 {X : Cx} {k j : Nat} {C : Addr} {x : Str} {ps : List Str} {sp : Sp} {p pos : Pos} (M : MkM X.prog X.w X.K X.mg X.base j x C ps sp) (hr : Room k X.A) (hj : j + 1 ≤ k) (hg : Gl X x) (hdb : (x == ("__debug__" : Str)) = false := by decide) : PE X (.Call (.Name x p) [] [] pos) (tMake C sp [] E0 tNil) := by
  obtain ⟨f, fd, hM, F, hb⟩ := M.ex
  exact pe_make0 hM F (hr.mono hj) hg M.gC hb .nil pass0 hdb
theorem pe_fldK {X : Cx} (K : PySem.W.Frag) {e : Expr} {f : Str} {pos : Pos} {ta : TE} (he : PE X e ta) (h : X.K = K := by rfl) (hb : attributeBase e f X.env (eval e X.env) = eval e X.env := by rfl) : PE X (e.Attribute f pos) (tFld K ta f) := h ▸ pe_fld he hb
theorem ps_fldK {X : Cx} (K : PySem.W.Frag) {o value : Expr} {f : Str} {pos pos' : Pos} {ta tv : TE} (ho : PE X o ta) (hv : PE X value tv) (h : X.K = K := by rfl) (hs : swapsWith value (some (o.Attribute f pos')) pos.line X.env = pure false := by rfl) : PS X (Stmt.Assign [o.Attribute f pos'] value pos) (sFld K ta tv f) := h ▸ ps_fld ho hv hs
theorem ps_augF {X : Cx} (K : PySem.W.Frag) {o value : Expr} {f : Str} {pos tpos : Pos} {ta tv : TE} {op : Operator} {rd : V → V → Hp → VK → Prop} (ho : PE X o ta) (hv : PE X value tv) (hop : InOp X op rd) (h : X.K = K := by rfl) : PS X (Stmt.AugAssign (o.Attribute f tpos) op value pos) (sFldAug K ta tv rd f) := h ▸ ps_fldaug ho hv hop
end DW

/-! `xs = [.. for y in a.replace(..).split(..) if ..]` in a def that has an argument: a token is out when its body begins -/
namespace DW
open PySem PySem.Spec PyProof.Rows L2
section
variable {X : Cx}
theorem lcT_core {pins : List (Addr × Obj)} {s : Shared} {σ : L2.St} {H : Hp} {Q : VK} {elt tg iter : Expr} {ifs : List Expr} {scope : Scope} {own : List (Str × Nat)} {pos pos' : Pos} {wi : TI} {g : TG} {tt : TT} {te : TE} {use : Option (Value → Sem Unit)} {Qf : Value → Shared → Prop}
    (h0 : 1 ≤ s.toks) (hc : X.calm = true) (hN : X.N.Nodup) (I : L2.Inv X pins σ H s) (hi : PIT X tg iter wi) (ok : BlkOk X.N X.env.scope scope own)
    (hg : ∀ (s : Shared) (H : Hp) (C : Addr) (cl : List (Str × Addr)) (fp : List Addr), PG (X.blk s H scope (compEnvC scope cl C X.env) fp) tg g)
    (ht : ∀ (s : Shared) (H : Hp) (C : Addr) (cl : List (Str × Addr)) (fp : List Addr), PTs (X.blk s H scope (compEnvC scope cl C X.env) fp) ifs tt)
    (he : ∀ (s : Shared) (H : Hp) (C : Addr) (cl : List (Str × Addr)) (fp : List Addr), PE (X.blk s H scope (compEnvC scope cl C X.env) fp) elt te) (hs : ∀ x, foldedSetIterable iter X.env x = pure x)
    (h : tLc wi g tt te (own.map (·.2)) σ H Q)
    (fin : ∀ D C s' m H', L2.Inv X pins σ H' s' → Q (.ref D) H' → s'.heap.Ns C m → FpOk X pins H' C → compPost (model X.prog X.w) X.A X.xe use Qf (.ref D) C (.ok .next) s') :
    wpAny (model X.prog X.w) X.A (comprehension (.ListComp elt [⟨tg, iter, ifs, 0⟩] scope pos) scope X.env pos' (newList []) false (eval iter X.env) use) Qf X.xe s := by
  have cells : ∀ y ∈ scope.names, y.2 = .free → ∃ c, X.env.cells.lookup y.1 = some c := fun y hy e => (ok.free y hy e).elim (fun k => I.ok.has _ (.inl k)) fun k => I.ok.has _ (.inr k)
  refine wpAny_comprehension_free (use := use) rfl hs (closure_ok cells) ok.kind (fun y hy e => by rw [ok.uniq y hy, e]) ?_
  refine thn (hi pins s σ H _ h0 I h) fun xv s1 hx => thn hx fun itv s2 h2 => ?_
  obtain ⟨it, fp, tn, J, H2, rfl, I2, T, st2, f2, q⟩ := h2
  refine wpAny_newObj_type (newEnv_comp ?_) (by show 0 ≤ sizeLine; decide)
  generalize hD : s2.heap.objs.size = D
  have nD : H2 D = none := I2.hok.fresh (Nat.le_of_eq hD)
  obtain ⟨W, ⟨m0, w0⟩, turn⟩ := q D nD
  have below : ∀ b ∈ fp, b < D := fun b hb => by
    obtain ⟨o, e, _⟩ := T.obj _ _ st2 b hb
    exact hD ▸ Heap.lt_size e
  generalize es3 : ({ s2 with heap := s2.heap.push { cls := .type "list", data := .seq ([] : List Value).toArray } } : Shared) = s3
  have h3 : s3.heap = s2.heap.push { cls := .type "list", data := .seq ([] : List Value).toArray } := by rw [← es3]
  have up3 : ∀ b o, s2.heap.get? b = some o → s3.heap.get? b = some o := fun b o e => by rw [h3]; exact Heap.get?_push_of_some _ e
  have I3 : L2.Inv X pins σ (upd H2 D (.lst [])) s3 := by
    subst hD
    rw [← es3]
    exact I2.laid (t' := s2.toks) (fun b o e => Heap.get?_push_of_some _ e) (Nat.le_refl _) ⟨Nat.zero_le _, [], 0, .nil, Heap.get?_push_size _ rfl⟩
  have f3 : ∀ b ∈ fp, FpOk X pins (upd H2 D (.lst [])) b ∧ b < s3.heap.objs.size := fun b hb => by
    refine ⟨⟨by rw [upd_ne (Nat.ne_of_lt (below b hb))]; exact (f2 b hb).1, (f2 b hb).2⟩, ?_⟩
    rw [h3, Heap.size_push, hD]
    exact Nat.lt_succ_of_lt (below b hb)
  obtain ⟨cl, ecl⟩ : ∃ cl, cl = cellsFrom (s3.heap.objs.size + 1) scope.names (cloFrom X.env.cells scope.names []) := ⟨_, rfl⟩
  have I4 := block_start I3 ok hN f3
  rw [← ecl] at I4
  obtain ⟨H3, eH3⟩ : ∃ H3, H3 = upd H2 D (.lst []) := ⟨_, rfl⟩
  rw [← eH3] at I3 I4 w0 f3
  obtain ⟨ce, ece⟩ : ∃ ce, ce = compEnvC scope cl s3.heap.objs.size X.env := ⟨_, rfl⟩
  obtain ⟨B, eB⟩ : ∃ B : Cx, B = X.blk s3 H3 scope ce fp := ⟨_, rfl⟩
  have bP : B.prog = X.prog := by rw [eB]
  have bw : B.w = X.w := by rw [eB]
  have bK : B.K = X.K := by rw [eB]
  have bA : B.A = X.A := by rw [eB]
  have bc : B.calm = X.calm := by rw [eB]
  have be : B.env = ce := by rw [eB]
  have bx : B.xe = fun _ _ => False := by rw [eB]
  have pg : PG B tg g := by rw [eB, ece]; exact hg s3 H3 _ cl fp
  have pt : PTs B ifs tt := by rw [eB, ece]; exact ht s3 H3 _ cl fp
  have pe : PE B elt te := by rw [eB, ece]; exact he s3 H3 _ cl fp
  have atB : ∀ {σ' : L2.St} {H' : Hp} {s' : Shared}, L2.Inv B [] σ' H' s' → (∀ b ∈ fp, H' b = none) → ∀ b ∈ fp, FpOk B [] H' b := fun {σ' H' s'} J hn b hb => by
    subst eB
    exact ⟨hn b hb, (J.ok.exf b hb).1, J.ok.exfs b hb, .inl hb, fun x c e => (J.ok.exf b hb).2 x c e, fun p hp => absurd (show p ∈ ([] : List (Addr × Obj)) ++ [] from hp) (by simp)⟩
  have back : ∀ {σ' : L2.St} {H' : Hp} {s' : Shared}, L2.Inv B [] σ' H' s' → L2.Inv X pins σ H' s' ∧ H' s3.heap.objs.size = none ∧ ∃ m, s'.heap.Ns s3.heap.objs.size m := fun {σ' H' s'} J => by
    subst eB ece
    exact ⟨I3.call' (ch := fp) J.os J.base J.hok J.bare fun b hb => ⟨(f3 b hb).1.2.2.2.1, (f3 b hb).1.2.1, (f3 b hb).1.2.2.2.2.1, (f3 b hb).1.2.2.2.2.2⟩, J.free, let ⟨m, hn, _⟩ := J.loc; ⟨m, hn⟩⟩
  show codeAny _ _ (.compStart (.ListComp elt [⟨tg, iter, ifs, 0⟩] scope pos) 0 (.ref it) (.ref D) (compEnvC scope (cellsFrom (s3.heap.objs.size + 1) scope.names (cloFrom X.env.cells scope.names [])) s3.heap.objs.size X.env)) (compPost (model X.prog X.w) X.A X.xe use Qf (.ref D) s3.heap.objs.size) { s3 with heap := pushCells (s3.heap.push { cls := .type "dict", data := .dict #[] }) scope.names }
  rw [← ecl, ← ece]
  obtain ⟨s4, es4⟩ : ∃ s4 : Shared, s4 = { s3 with heap := pushCells (s3.heap.push { cls := .type "dict", data := .dict #[] }) scope.names } := ⟨_, rfl⟩
  have J4 : L2.Inv B [] (wipe σ (own.map (·.2))) H3 s4 := by rw [es4, eB, ece]; exact I4
  have st4 : tn 0 s4.heap := T.keep _ _ _ st2 fun b _ o e => by rw [es4]; exact pushCells_keeps _ _ _ _ (Heap.get?_push_of_some _ (up3 b o e))
  rw [← es4]
  have n4 : ∀ b ∈ fp, H3 b = none := fun b hb => (f3 b hb).1.1
  have loop : codeAny (model X.prog X.w) X.A (.compLoop (.ListComp elt [⟨tg, iter, ifs, 0⟩] scope pos) 0 (.ref it) (.ref D) ce) (compPost (model X.prog X.w) X.A X.xe use Qf (.ref D) s3.heap.objs.size) s4 := by
    refine compLoop_any (fun n s' => ∃ i H', L2.Inv B [] (wipe σ (own.map (·.2))) H' s' ∧ tn i s'.heap ∧ (∀ b ∈ fp, H' b = none) ∧ W i n H') ?_ m0 ⟨0, H3, J4, st4, n4, w0⟩
    rintro n s5 ⟨i, H5, J5, st5, n5, w5⟩
    have runB : ∀ {α : Type} {m : Sem α} {R : α → Shared → Prop} {E : Value → Shared → Prop} {t : Shared}, wpAny (model B.prog B.w) B.A m R E t → wpAny (model X.prog X.w) X.A m R E t := fun z => by rw [← bP, ← bw, ← bA]; exact z
    have runA : ∀ {α : Type} {m : Sem α} {R : α → Shared → Prop} {E : Value → Shared → Prop} {t : Shared}, wpAny (model X.prog X.w) B.A m R E t → wpAny (model X.prog X.w) X.A m R E t := fun z => by rw [← bA]; exact z
    rcases turn i n H5 w5 with ⟨stop, qq⟩ | ⟨go, Nx, hNx, step⟩
    · refine thnF (runA (T.done B (by rw [bP]) (by rw [bw]) (by rw [bK]) (by rw [bc]; exact hc) i [] s5 _ H5 (fun _ _ => False) J5 (atB J5 n5) st5 stop)) fun r s6 ⟨hr, J6⟩ => ?_
      subst hr
      obtain ⟨I7, nC, m, hn⟩ := back J6
      exact fin D s3.heap.objs.size s6 m H5 I7 qq hn (I3.fpOk (Nat.le_refl _) nC)
    · refine thnF (runA (T.item B (by rw [bP]) (by rw [bw]) (by rw [bK]) (by rw [bc]; exact hc) i [] s5 _ H5 (fun _ _ => False) J5 (atB J5 n5) st5 go)) fun r s6 ⟨u, hr, h6⟩ => ?_
      subst hr
      refine thnF (runA h6) fun _ s7 ⟨x, H7, J7, r7, y7, st7, n7⟩ => ?_
      have J7' := J7.pinned (atB J7 n7) (T.obj _ _ st7)
      have z7 := pg.run _ s7 _ H7 x u _ J7' r7 (step x H7 y7)
      rw [be, bx] at z7
      refine thnF (runB z7) fun _ s8 ⟨σ8, H8, J8, hw8, q8⟩ => ?_
      have turned : ∀ {s' : Shared} {H' : Hp}, L2.Inv B ([] ++ pinsAt fp s7.heap) σ8 H' s' → Nx H' → ∃ m, m < n ∧ ∃ i H', L2.Inv B [] (wipe σ (own.map (·.2))) H' s' ∧ tn i s'.heap ∧ (∀ b ∈ fp, H' b = none) ∧ W i m H' := fun {s' H'} J nx => by
        obtain ⟨m', hm, w'⟩ := hNx H' nx
        have pin : ∀ b ∈ fp, ∀ o, s7.heap.get? b = some o → s'.heap.get? b = some o ∧ H' b = none := fun b hb o e =>
          have z := J.pin (b, o) (List.mem_append_right _ (List.mem_append_right _ (mem_pinsAt hb e)))
          ⟨z.1, z.2.1⟩
        have hl : (wipe σ (own.map (·.2))).length = σ8.length := by rw [← hw8, wipe_length]
        refine ⟨m', hm, i + 1, H', (J.unpinned (pins := [])).weak hl (fun j v e => (wipe_some (hw8.symm ▸ e)).1), T.keep _ _ _ st7 fun b hb o e => (pin b hb o e).1, fun b hb => ?_, w'⟩
        obtain ⟨o, e, _⟩ := T.obj _ _ st7 b hb
        exact (pin b hb o e).2
      have z8 := pt.run _ s8 σ8 H8 _ J8 q8
      rw [be, bx] at z8
      refine thnF (runB z8) fun b s9 ⟨H9, J9, q9⟩ => ?_
      cases b with
      | false => exact turned J9 (by simpa using q9)
      | true =>
        rw [if_pos rfl] at q9 ⊢
        have z9 := pe.run _ s9 σ8 H9 _ J9 q9
        rw [be, bx] at z9
        refine thnF (runB z9) fun z s10 ⟨yv, H10, J10, r10, acc, hD10, hz10, nx⟩ => ?_
        exact runB (app_ok J10 hD10 hz10 r10 fun s11 J11 => turned J11 nx)
  exact codeAny_compStart_list loop (T.self X.A 0 _ _ _ st4 loop)
theorem pst_setLc {i : Nat} {y : Str} {py : Pos} {elt tg iter : Expr} {ifs : List Expr} {scope : Scope} {own : List (Str × Nat)} {pos spos : Pos} {wi : TI} {g : TG} {tt : TT} {te : TE} (hc : X.calm = true) (hN : X.N.Nodup) (hy : X.N[i]? = some y) (hyl : X.env.scope.names.lookup y = some .local)
    (hsw : swapsWith (.ListComp elt [⟨tg, iter, ifs, 0⟩] scope pos) (some (.Name y py)) spos.line X.env = pure true) (hi : PIT X tg iter wi) (ok : BlkOk X.N X.env.scope scope own)
    (hg : ∀ (s : Shared) (H : Hp) (C : Addr) (cl : List (Str × Addr)) (fp : List Addr), PG (X.blk s H scope (compEnvC scope cl C X.env) fp) tg g)
    (ht : ∀ (s : Shared) (H : Hp) (C : Addr) (cl : List (Str × Addr)) (fp : List Addr), PTs (X.blk s H scope (compEnvC scope cl C X.env) fp) ifs tt)
    (he : ∀ (s : Shared) (H : Hp) (C : Addr) (cl : List (Str × Addr)) (fp : List Addr), PE (X.blk s H scope (compEnvC scope cl C X.env) fp) elt te) (hs : ∀ x, foldedSetIterable iter X.env x = pure x := by intro _; rfl) :
    PST X (.Assign [.Name y py] (.ListComp elt [⟨tg, iter, ifs, 0⟩] scope pos) spos) (tAsg (tLc wi g tt te (own.map (·.2))) (gName i)) := by
  intro pins s σ H D h0 I h
  rw [exec_Assign_Name_used _ _ _ _ hsw]
  refine wpAny_bind (wpAny_standAt (wpAny_bind ?_))
  show wpAny _ X.A (do let _ ← comprehension (.ListComp elt [⟨tg, iter, ifs, 0⟩] scope pos) scope X.env (firstIterPos [⟨tg, iter, ifs, 0⟩] pos) (newList []) false (eval iter X.env) (some (assign (.Name y py) X.env))) _ _ s
  have h : tLc wi g tt te (own.map (·.2)) σ H (fun x H1 => gName i x σ H1 D.nx) := h
  refine wpAny_bind (thn (lcT_core (Qf := fun _ s' => SP X pins D .next s') h0 hc hN I hi ok hg ht he hs h fun L C s' m H' I' q hn f => ?_) fun _ s' hq => wpAny_pure (wpAny_pure hq))
  show wpAny _ _ (assign (.Name y py) X.env (.ref L)) _ _ _
  refine wpAny_assign_Name (store_ok2 (v := V.ref L) I' hN hy (.inl hyl) rfl (fun s2 I2 ⟨a, sb, ha⟩ => ?_) (.inr hyl))
  obtain ⟨f0, f1, _, f3, f4, f5⟩ := f
  have other : C ≠ a := by
    rcases ha with z | z
    · exact z ▸ f1
    · exact fun e => f4 y a z e.symm
  exact ⟨m, hn.sameBut sb other, fun h3 sb3 => ⟨_, H', I2.turned (t' := s2.toks) (fun b o hb e => (sb3.2 b hb).trans e) f0 f1 f3 f4 f5, q⟩⟩
/-- a text's method of one argument, its receiver wants a token -/
theorem pet_m1 {id : String} {name : Str} {apos pos : Pos} {o e : Expr} {to te : TE} {r : V → List V → Hp → VK → Prop} (slot : Slot "str" name id) (ty : typeOf (.builtin id) = pure (.type "method_descriptor")) (rule : MtR X id r) (ho : PET X o to) (he : PE X e te)
    (hs : starEach [e] X.env = [(false, eval e X.env)] := by rfl) (hbase : attributeBase o name X.env (eval o X.env) = eval o X.env := by rfl) (hline : (apos.endLine == pos.line) = true := by rfl) :
    PET X (.Call (.Attribute o name apos) [e] [] pos) (tM1 r to te) := by
  intro pins s σ H Q h0 I h
  refine PySem.Call_method1 hbase hs hline (thn (ho pins s σ H _ h0 I h) fun v s1 ⟨x, H1, I1, r1, q1⟩ => ?_)
  obtain ⟨⟨a, rfl⟩, q1⟩ := q1
  obtain ⟨t, rfl⟩ := _root_.id r1
  refine ⟨"str", _, PySem.F.plainAttrs_str, slot, ty, typeIs_str _ _ _, (fun _ e => nomatch e), Calls.callWith_builtin rfl (Calls.evalArgs_plain (Calls.spliced_cons ?_))⟩
  exact thn (he.run pins s1 σ H1 _ I1 q1) fun u s2 ⟨y, H2, I2, r2, q2⟩ => Calls.spliced_nil (rule pins s2 σ H2 _ [y] _ [u] Q I2 r1 (.cons r2 .nil) q2)
theorem psst_nox {st : List Stmt} {t : TS} (h : PSsT X.nox st t) : PSsT X st t := fun pins s σ H D h0 I hw =>
  wpAny_mono (h pins s σ H D h0 (I.wish _) hw) (fun _ _ q => q.unwish) fun _ _ z => False.elim z
end
section
variable {P : Program} {w : World} {K : PySem.W.Frag} {mg : Str → Option Value} {base : Heap} {x qual : Str} {st : Stmt} {f : Addr} {fd : FuncData} {Nn ps : List Str} {k : Nat} {Tb : List Addr}
/-- a def that gives data; a token is out when it begins -/
theorem df_tok (F : Fun K x qual st f fd) (Sc : FnScope Nn ps (defScope st)) (hnc : ∀ y ∈ (defScope st).names, y.2 ≠ .cell) (hps : 1 ≤ ps.length) (hm : mg x = some (.ref f)) (hb : Binds K fd ps []) {R : List PyData → PyData → Prop} (hlen : ∀ ds d, R ds d → ds.length = ps.length)
    (body : ∀ (cdv : Value) (A : Around) (outer : List Env) (s : Shared) (H : Hp) (E : XK), Room k (A.deeper (envOfC qual (defScope st) s.heap.objs.size f cdv)) →
      ∃ t, PSsT (cxOf CX0 P w K mg base Nn qual (defScope st) f cdv A outer s H E).nox (defBody st) t ∧ ∀ (ds : List PyData) (d : PyData) (F0 H0 : Hp) (Q : VK), R ds d → Rt ⟨K, Tb, F0, H0, F0⟩ Q d → S ⟨K, Tb, F0, H0, F0⟩ t { nx := fun _ H' => Q .non H', rt := Q } (startG Nn.length ds)) :
    Df P w K mg base (k + 1) x ps (spD K Tb R) := by
  refine ⟨f, fd, ?_, hm, F.kp, hb⟩
  obtain ⟨oc, od, kV, doc, pm, an, cdv, ct, osl, rfl, lk, hcd⟩ := F.ex
  refine fn_ofT lk hcd Sc hnc hps (fun vs H Q E h => ?_) fun A outer s H vs Q E hr h => ?_
  · obtain ⟨F, ds, d, _, _, hd, r, _⟩ := h
    exact (dps_len hd).trans (hlen ds d r)
  · obtain ⟨F1, ds, d, sb, ht, hd, r, q⟩ := h
    obtain ⟨t, h1, h2⟩ := body cdv A outer s H E hr
    exact ⟨t, psst_nox h1, h2 ds d F1 H Q r q _ F1 H (holds_start sb ht hd)⟩
end
section
variable {g : Gd} {G : List Sl} {te to : TE} {a y z : Str}
theorem e_repl (h : E g to G (.str a)) (hz : a.length + (a.length + 1) * z.length ≤ 16777216) : E g (CwR.tReplC to y z) G (.str (Txt.replace a y z)) := fun σ F H hh Q q => h σ F H hh _ fun v F1 H1 s1 d1 => by
  cases d1
  exact ⟨a, rfl, hz, q _ F1 H1 s1 (.str _)⟩
def rSplit : V → List V → Hp → VK → Prop := fun x xs H Q => ∃ a b, x = .str a ∧ xs = [.str b] ∧ (b.length == 0) = false ∧ a.length + 2 ≤ sizeLine ∧ rNewStrs (Txt.split a b) H Q
theorem mt_splitK {X : Cx} : MtR X "str.split" rSplit := mt_split
theorem e_split (h : E g to G (.str a)) (hb : E g te G (.str y)) (h1 : (y.length == 0) = false) (h2 : a.length ≤ 100000) : E g (tM1 rSplit to te) G (.list ((Txt.split a y).map .str)) := fun σ F H hh Q q => h σ F H hh _ fun v F1 H1 s1 d1 => by
  cases d1
  refine ⟨⟨a, rfl⟩, hb σ F1 H1 (hh.mono s1) _ fun u F2 H2 s2 d2 => ?_⟩
  cases d2
  refine ⟨a, y, rfl, rfl, h1, Nat.le_trans (Nat.add_le_add_right h2 2) (by decide), fun p hp => ?_⟩
  have st := Stp.new (o := .lst ((Txt.split a y).map V.str)) (s1.trans s2).i hp fun _ z => by cases z
  exact q (.ref p) _ _ ((s1.trans s2).trans st) (.lst (.inl (.inl upd_same)) (dps_strs _))
def rStarts : V → List V → Hp → VK → Prop := fun x xs H Q => ∃ a b, x = .str a ∧ xs = [.str b] ∧ Q (.bl (Txt.startswith a b)) H
theorem mt_startsK {X : Cx} : MtR X "str.startswith" rStarts := mt_startswith
theorem b_starts (h : B g to G (.str a)) (hb : B g te G (.str y)) : B g (tM1 rStarts to te) G (.bool (Txt.startswith a y)) := fun σ F H hh Q q => h σ F H hh _ fun v F1 H1 s1 d1 => by
  cases d1
  refine ⟨⟨a, rfl⟩, hb σ F1 H1 (hh.mono s1) _ fun u F2 H2 s2 d2 => ?_⟩
  cases d2
  exact ⟨a, y, rfl, rfl, q _ F2 H2 (s1.trans s2) (.bl _)⟩
end
end DW

/-! a displayed dict of more than fifteen entries -/
namespace DW
open PySem PySem.Spec PyProof.Rows L2
section
theorem gather_more {m : Option Addr} (f : (Option (Sem Value) × Sem Value) → (Option Addr × List (Sem Value × Sem Value)) → Sem (ForInStep (Option Addr × List (Sem Value × Sem Value))))
    (hf : ∀ (p : Sem Value × Sem Value) (run : List (Sem Value × Sem Value)), run.length + 1 < 17 → f (some p.1, p.2) (m, run) = pure (.yield (m, run ++ [p]))) (more : List (Option (Sem Value) × Sem Value)) :
    ∀ (items run : List (Sem Value × Sem Value)), run.length + items.length < 17 → forIn (items.map (fun p => (some p.1, p.2)) ++ more) (m, run) f = forIn more (m, run ++ items) f
  | [], run, _ => by simp
  | p :: rest, run, h => by
    rw [List.map_cons, List.cons_append, List.forIn_cons, hf p run (by simp at h; omega), pure_bind]
    have := gather_more f hf more rest (run ++ [p]) (by simp at h ⊢; omega)
    simpa using this
variable {M : Model} {A : Around} {E : Value → Shared → Prop} {s : Shared}
theorem wp_display {ps qs : List (Sem Value × Sem Value)} {p : Sem Value × Sem Value} {Q : Value → Shared → Prop} (h17 : ps.length = 16) (hq0 : qs ≠ []) (hq : qs.length < 17)
    (h : wpAny M A (subDict (ps ++ [p])) (fun d s1 => wpAny M A (subDict qs) (fun sub s2 => wpAny M A (mergeMapping d (.ref sub) false) (fun _ s3 => Q (.ref d) s3) (fun _ _ => False) s2) E s1) E s) :
    wpAny M A (dictDisplay ((ps ++ [p] ++ qs).map fun p => (some p.1, p.2))) Q E s := by
  unfold dictDisplay
  dsimp only
  rw [List.map_append, List.map_append, List.append_assoc]
  rw [gather_more _ (fun p run h => by
    have hne : ((run ++ [(p.1, p.2)]).length == 17) = false := by simp; omega
    simp only [hne, Bool.false_eq_true, if_false]) _ ps [] (by simp; omega)]
  rw [List.nil_append, List.map_cons, List.map_nil, List.cons_append, List.nil_append, List.forIn_cons]
  dsimp only
  rw [if_pos (by simp [h17]), if_neg (by simp)]
  refine wpAny_bind (wpAny_bind (wpAny_bind (wpAny_bind (wpAny_mono h (fun d s1 h1 => wpAny_pure (wpAny_pure ?_)) fun _ _ e => e))))
  dsimp only
  rw [← List.append_nil (List.map _ qs)]
  rw [gather_more _ (fun p run h => by
    have hne : ((run ++ [(p.1, p.2)]).length == 17) = false := by simp; omega
    simp only [hne, Bool.false_eq_true, if_false]) [] qs [] (by simpa using hq)]
  rw [List.nil_append, List.forIn_nil]
  refine wpAny_pure ?_
  dsimp only
  rw [if_neg (by simpa using hq0)]
  exact wpAny_bind (wpAny_bind (wpAny_holding (wpAny_mono h1 (fun sub s2 h2 => wpAny_bind (wpAny_onRaise (wpAny_holding (wpAny_mono h2 (fun _ s3 h3 => wpAny_pure (wpAny_pure h3)) fun _ _ e => e.elim)))) fun _ _ e => e)))
theorem wp_range {n : Nat} {f : Nat → PUnit → Sem (ForInStep PUnit)} {Q : PUnit → Shared → Prop} (I : Nat → Shared → Prop)
    (step : ∀ i s, i < n → I i s → wpAny M A (f i PUnit.unit) (fun r s' => r = .yield PUnit.unit ∧ I (i + 1) s') E s) (done : ∀ s, I n s → Q PUnit.unit s) :
    ∀ (m j : Nat) (s : Shared), j + m = n → I j s → wpAny M A (forIn (List.range' j m) PUnit.unit f) Q E s
  | 0, j, s, e, h => by
    rw [Nat.add_zero] at e
    subst e
    rw [List.range'_zero, List.forIn_nil]
    exact wpAny_pure (done s h)
  | m + 1, j, s, e, h => by
    rw [List.range'_succ, List.forIn_cons]
    refine wpAny_bind (wpAny_mono (step j s (by omega) h) (fun r s' q => ?_) fun _ _ e => e)
    obtain ⟨rfl, q⟩ := q
    exact wp_range I step done m (j + 1) s' (by omega) q
end
section
variable {prog : Program} {w : World} {K : Type} [DecidableEq K] {knd : KeyKind prog w K} {A : Around} {E : Value → Shared → Prop} {s : Shared}
theorem dp_put {d : Addr} {kvs : List (K × Value)} {k : K} {key v : Value} {Q : Unit → Shared → Prop} (hkey : knd.is k key = true) (hm : s.heap.DictOf knd d kvs)
    (hQ : ∀ h', h'.DictOf knd d (stored kvs k v) → Heap.SameBut d s.heap h' → Q () { s with heap := h' }) (hsz : kvs.length ≤ sizeLine) : wpAny (model prog w) A (dictPut d (knd.hash k) key v) Q E s := by
  obtain ⟨o, es, ep, ho, hc, hd, hk, hp, hn⟩ := hm
  have hes : es.size ≤ sizeLine := by
    have e1 := hp.length
    have e2 : es.toList.length = es.size := by simp
    omega
  unfold dictPut
  refine wpAny_bind (wpAny_dictFind_of hkey ho hd hk ?_)
  have hidx : (es.findIdx? fun e => knd.is k e.key) = kvs.findIdx? fun kv => decide (kv.1 = k) := by
    rw [← hp.findIdx k]
    obtain ⟨l⟩ := es
    simp
  cases hi : es.findIdx? fun e => knd.is k e.key with
  | some i =>
    have hl : (es.toList.findIdx? fun e => knd.is k e.key) = some i := by
      rw [← hi]
      obtain ⟨l⟩ := es
      simp
    refine wpAny_updateDict ho hd (hQ _ ⟨_, _, ep, Heap.get?_update_self _ ho (Obj.isFreed_of_dict (Obj.data_mapDict hd _)), hc.mapDict _, Obj.data_mapDict hd _, hk.modify _ _, ?_, ?_⟩ (Heap.SameBut.update ..))
    · rw [stored, if_pos (any_of_findIdx_some (hidx ▸ hi))]
      have := hp.modify hn hl v
      obtain ⟨l⟩ := es
      simpa using this
    · rw [stored, if_pos (any_of_findIdx_some (hidx ▸ hi)), keys_map_store]
      exact hn
  | none =>
    have out : k ∉ kvs.map (·.1) := not_mem_of_findIdx_none (hidx ▸ hi)
    have any : ¬ (kvs.any fun kv => decide (kv.1 = k)) = true := by
      rw [List.any_eq_true]
      rintro ⟨kv, hkv, he⟩
      exact out (List.mem_map.mpr ⟨kv, hkv, of_decide_eq_true he⟩)
    refine wpAny_updateDictKeys (hz := hes) ho hd (hQ _ ⟨_, _, ep + 1, Heap.get?_update_self _ ho (Obj.isFreed_of_dict (Obj.data_mapDictKeys hd _)), hc.mapDictKeys _, Obj.data_mapDictKeys hd _, hk.push hkey _, ?_, ?_⟩ (Heap.SameBut.update ..))
    · rw [stored, if_neg any]
      have := hp.append hkey (knd.hash k) v
      obtain ⟨l⟩ := es
      simpa using this
    · rw [stored, if_neg any, List.map_append, List.nodup_append]
      refine ⟨hn, by simp, fun a ha b hb => ?_⟩
      rw [List.map_cons, List.map_nil, List.mem_singleton] at hb
      subst hb
      exact fun e => out (e ▸ ha)
theorem wp_merge {d a : Addr} {kvs more : List (K × Value)} {Q : Unit → Shared → Prop} (hda : d ≠ a) (hS : (a == sysModules) = false) (hd : s.heap.DictOf knd d kvs) (ha : s.heap.DictOf knd a more) (h0 : kvs ≠ []) (hsz : kvs.length + more.length ≤ sizeLine)
    (hQ : ∀ h', h'.DictOf knd d (merged kvs more) → Heap.SameBut d s.heap h' → Q () { s with heap := h' }) : wpAny (model prog w) A (mergeMapping d (.ref a) false) Q E s := by
  obtain ⟨oo, eso, epo, hoo, hco, hdo, hko, hpo, hno⟩ := _root_.id ha
  obtain ⟨od, esd, epd, hod, hcd, hdd, hkd, hpd, hnd⟩ := _root_.id hd
  unfold mergeMapping
  refine wpAny_bind (wpAny_isInstance ha.typeIs isSubtype_dict_dict ?_)
  rw [if_pos rfl]
  refine wpAny_bind (wpAny_specialOf ha.typeIs F.slot_dict_iter.lookup ?_)
  refine wpAny_bind (wpAny_pure ?_)
  rw [beq_self_eq_true]
  dsimp only
  rw [if_neg (by rw [hS]; decide)]
  refine wpAny_bind (wpAny_dictEntries hod hdd ?_)
  have full : ¬ esd.isEmpty = true := fun z => by
    have e1 := hpd.length
    rw [Array.isEmpty_iff.mp z] at e1
    exact h0 (List.length_eq_zero_iff.mp e1.symm)
  rw [if_neg full]
  refine wpAny_bind (wpAny_dictEntries hoo hdo ?_)
  refine wpAny_bind (wpAny_dictEpoch hoo hdo ?_)
  have hlen : more.length = eso.size := by
    have e1 := hpo.length
    rw [Array.length_toList] at e1
    exact e1.symm
  rw [List.range_eq_range']
  refine wpAny_bind (wp_range (n := eso.size) (fun i s' => ∃ h', s' = { s with heap := h' } ∧ h'.DictOf knd d (merged kvs (more.take i)) ∧ h'.get? a = some oo ∧ Heap.SameBut d s.heap h') ?_ ?_ eso.size 0 s (Nat.zero_add _) ⟨s.heap, rfl, hd, hoo, Heap.SameBut.refl _ _⟩)
  · rintro i s' hi ⟨h', rfl, hd', ho', sb⟩
    refine wpAny_bind (wpAny_dictEntries ho' hdo ?_)
    rw [Array.getElem?_eq_getElem hi]
    obtain ⟨⟨k, v⟩, hkv⟩ : ∃ kv, more[i]? = some kv := ⟨_, List.getElem?_eq_getElem (by rw [hlen]; exact hi)⟩
    obtain ⟨hkey, hval⟩ := hpo.get? (e := eso[i]) (by simp [hi]) hkv
    obtain ⟨k', hkey', hhash⟩ := hko eso[i] (Array.getElem_mem hi)
    obtain rfl : k' = k := knd.inj _ _ _ hkey' hkey
    dsimp only
    rw [if_neg Bool.false_ne_true, hhash, hval]
    have hz : (merged kvs (more.take i)).length ≤ sizeLine := by
      have e1 := merged_length_le kvs (more.take i)
      rw [List.length_take] at e1
      omega
    refine wpAny_bind (wpAny_holding (dp_put hkey hd' (fun h2 hd2 sb2 => ?_) hz))
    have ho2 : h2.get? a = some oo := (sb2.2 a (Ne.symm hda)).trans ho'
    refine wpAny_bind (wpAny_dictEpoch ho2 hdo ?_)
    rw [if_neg (by simp)]
    exact wpAny_pure ⟨rfl, h2, rfl, by rw [merged_take_succ kvs more i (k', v) hkv]; exact hd2, ho2, sb.trans sb2⟩
  · rintro s' ⟨h', rfl, hd', ho', sb⟩
    rw [← hlen, List.take_length] at hd'
    exact wpAny_pure (hQ h' hd' sb)
theorem wp_subLong {M : Model} {pairs : List (Sem Value × Sem Value)} {Q : Addr → Shared → Prop} (hlen : 15 < pairs.length)
    (h : wpAny M A (forIn pairs PUnit.unit fun (x : Sem Value × Sem Value) (_ : PUnit) => (do let kv ← x.1; let vv ← holding [kv] x.2; holding [kv, vv] (dictSet s.heap.objs.size kv vv); pure (ForInStep.yield PUnit.unit) : Sem (ForInStep PUnit))) (fun _ s' => Q s.heap.objs.size s') E
      { s with heap := s.heap.push { cls := .type "dict", data := .dict #[] } }) : wpAny M A (subDict pairs) Q E s := by
  unfold subDict
  refine wpAny_bind (wpAny_alloc (wpAny_bind (wpAny_holding ?_)))
  rw [if_neg (by omega)]
  refine wpAny_bind (wpAny_rule ?_)
  exact wpAny_bind (wpAny_mono h (fun _ s' q => wpAny_pure (wpAny_pure q)) fun _ _ e => e)
theorem wp_display17 {M : Model} {ps qs : List (Sem Value × Sem Value)} {Q : Value → Shared → Prop} (h17 : ps.length = 17) (hq0 : qs ≠ []) (hq : qs.length < 17)
    (h : wpAny M A (subDict ps) (fun d s1 => wpAny M A (subDict qs) (fun sub s2 => wpAny M A (mergeMapping d (.ref sub) false) (fun _ s3 => Q (.ref d) s3) (fun _ _ => False) s2) E s1) E s) :
    wpAny M A (dictDisplay ((ps ++ qs).map fun p => (some p.1, p.2))) Q E s := by
  have hne : ps ≠ [] := fun z => by rw [z] at h17; cases h17
  have e : ps = ps.dropLast ++ [ps.getLast hne] := (List.dropLast_concat_getLast hne).symm
  rw [e] at h ⊢
  exact wp_display (by rw [List.length_dropLast, h17]) hq0 hq h
theorem trees_cut {env : Env} {pos : Pos} : ∀ (n : Nat) (keys : List (Option Expr)) (values : List Expr), keys.all (·.isSome) = true → keys.length = values.length →
    pairTrees keys values env pos = pairTrees (keys.take n) (values.take n) env pos ++ pairTrees (keys.drop n) (values.drop n) env pos
  | 0, _, _, _, _ => rfl
  | n + 1, [], [], _, _ => rfl
  | n + 1, [], _ :: _, _, h => by simp at h
  | n + 1, _ :: _, [], _, h => by simp at h
  | n + 1, none :: _, _ :: _, h, _ => by simp at h
  | n + 1, some k :: ks, v :: vs, h, hl => by
    have ih := trees_cut (env := env) (pos := pos) n ks vs (by simpa using h) (by simpa using hl)
    show _ :: pairTrees ks vs env pos = _ :: (pairTrees (ks.take n) (vs.take n) env pos ++ pairTrees (ks.drop n) (vs.drop n) env pos)
    rw [ih]
end
/-- the pairs stored one by one -/
def tPut (D : Addr) : List (TE × TE) → L2.St → Hp → (Hp → Prop) → Prop
  | [], _, H, Q => Q H
  | (tk, tv) :: r, σ, H, Q => tk σ H fun x H1 => tv σ H1 fun y H2 => ∃ kvs k, x = kV k ∧ H2 D = some (.dK kvs) ∧ kvs.length < sizeLine ∧ tPut D r σ (upd H2 D (.dK (putK kvs k y))) Q
structure PLong (X : Cx) (pos : Pos) (keys : List (Option Expr)) (values : List Expr) (trs : List (TE × TE)) : Prop where
  run : ∀ (pins : List (Addr × Obj)) (s : Shared) (σ : L2.St) (H : Hp) (D : Addr) (Q : Hp → Prop), L2.Inv X pins σ H s → tPut D trs σ H Q →
    wpAny (model X.prog X.w) X.A (forIn (pairTrees keys values X.env pos) PUnit.unit fun (x : Sem Value × Sem Value) (_ : PUnit) => (do let kv ← x.1; let vv ← holding [kv] x.2; holding [kv, vv] (dictSet D kv vv); pure (ForInStep.yield PUnit.unit) : Sem (ForInStep PUnit)))
      (fun _ s' => ∃ H', L2.Inv X pins σ H' s' ∧ Q H') X.xe s
theorem plong_nil {X : Cx} {pos : Pos} : PLong X pos [] [] [] := ⟨fun pins s σ H D Q I h => by
  show wpAny _ _ (forIn ([] : List (Sem Value × Sem Value)) PUnit.unit _) _ _ _
  rw [List.forIn_nil]
  exact wpAny_pure ⟨H, I, h⟩⟩
theorem plong_cons {X : Cx} {pos : Pos} {k v : Expr} {ks : List (Option Expr)} {vs : List Expr} {tk tv : TE} {trs : List (TE × TE)} (hk : PE X k tk) (hv : PE X v tv) (hr : PLong X pos ks vs trs) :
    PLong X pos (some k :: ks) (v :: vs) ((tk, tv) :: trs) := ⟨fun pins s σ H D Q I h => by
  show wpAny _ _ (forIn ((eval k X.env, (do let x ← eval v X.env; standAt pos; pure x)) :: pairTrees ks vs X.env pos) PUnit.unit _) _ _ _
  rw [List.forIn_cons]
  refine wpAny_bind (wpAny_bind (thn (hk.run pins s σ H _ I h) fun u s1 ⟨x, H1, I1, rx, q1⟩ => ?_))
  refine wpAny_bind (wpAny_holding (wpAny_bind (thn (hv.run pins s1 σ H1 _ I1 q1) fun r s2 ⟨y, H2, I2, ry, kvs, kk, ex, hD, hz, q2⟩ => ?_)))
  refine wpAny_bind (wpAny_standAt (wpAny_pure ?_))
  subst ex
  refine wpAny_bind (wpAny_holding (d_dictSet I2 hD hz rx ry fun s3 I3 => wpAny_pure ?_))
  exact hr.run pins s3 σ _ D Q I3 q2⟩
/-- {k: v, ..} of 18 to 32 entries: the first 17 one by one, the rest as a dict of its own, merged -/
def tDispL (trs1 trs2 : List (TE × TE)) : TE := fun σ H Q => ∀ p, H p = none → tPut p trs1 σ (upd H p (.dK [])) fun H2 => ∃ kvs1, H2 p = some (.dK kvs1) ∧ kvs1 ≠ [] ∧ kvs1.length ≤ 17 ∧
  ∀ p2, H2 p2 = none → tPairs trs2 σ (upd H2 p2 (.dK [])) fun ps H3 => H3 p2 = some (.dK []) ∧ H3 p = some (.dK kvs1) ∧ ∃ kvs2 : List (Key × V), ps = kvs2.map (fun kv => (kV kv.1, kv.2)) ∧ kvs2.length ≤ 15 ∧
    Q (.ref p) (upd (upd H3 p2 (.dK (mergeK [] kvs2))) p (.dK (mergeK kvs1 (mergeK [] kvs2))))
theorem pe_dispL {X : Cx} {pos : Pos} {keys : List (Option Expr)} {values : List Expr} {trs1 trs2 : List (TE × TE)} (h1 : PLong X pos (keys.take 17) (values.take 17) trs1) (h2 : PPs X pos (keys.drop 17) (values.drop 17) trs2)
    (hall : keys.all (·.isSome) = true) (hl : keys.length = values.length) (h18 : 17 < keys.length) (h32 : keys.length ≤ 32) : PE X (.Dict keys values pos) (tDispL trs1 trs2) := by
  refine ⟨fun pins s σ H Q I q => ?_⟩
  have hn := I.hok.fresh (Nat.le_refl s.heap.objs.size)
  have I1 := I.laid (a := s.heap.objs.size) (o := .dK []) (h' := s.heap.push { cls := .type "dict", data := .dict #[] }) (t' := s.toks) (fun _ _ q => Heap.get?_push_of_some _ q) (Nat.le_refl _) (dk_empty s.heap I.big)
  have a1 : (keys.take 17).all (·.isSome) = true := List.all_eq_true.mpr fun x hx => List.all_eq_true.mp hall x (List.mem_of_mem_take hx)
  have a2 : (keys.drop 17).all (·.isSome) = true := List.all_eq_true.mpr fun x hx => List.all_eq_true.mp hall x (List.mem_of_mem_drop hx)
  have n1 := pairTrees_length (keys.take 17) (values.take 17) X.env pos a1 (by rw [List.length_take, List.length_take, hl])
  have n2 := pairTrees_length (keys.drop 17) (values.drop 17) X.env pos a2 (by rw [List.length_drop, List.length_drop, hl])
  rw [List.length_take] at n1
  rw [List.length_drop] at n2
  rw [arm_eval_Dict, zip_pairTrees keys values X.env pos hall hl, trees_cut 17 keys values hall hl]
  refine wpAny_bind (wpAny_standAt ?_)
  refine wp_display17 (by omega) (fun z => by rw [z] at n2; simp at n2; omega) (by omega) ?_
  refine wp_subLong (by omega) (thn (h1.run pins _ σ _ s.heap.objs.size _ I1 (q _ hn)) fun _ s2 ⟨H2, I2, kvs1, e1, k0, kl, q2⟩ => ?_)
  have hn2 := I2.hok.fresh (Nat.le_refl s2.heap.objs.size)
  have I3 := I2.laid (a := s2.heap.objs.size) (o := .dK []) (h' := s2.heap.push { cls := .type "dict", data := .dict #[] }) (t' := s2.toks) (fun _ _ q => Heap.get?_push_of_some _ q) (Nat.le_refl _) (dk_empty s2.heap I2.big)
  refine wpAny_subDict (knd := mixKind X.prog X.w) (by omega) (thn (h2.run pins _ σ _ _ I3 (q2 _ hn2)) fun ws s4 ⟨ps, H3, I4, rel, e2, e3, kvs2, ep, l15, q3⟩ => ?_)
  subst ep
  obtain ⟨rs, c, rk⟩ := carries_of (P := X.prog) (w := X.w) rel
  obtain ⟨z, hd, vs0, r0, dd⟩ := dk_of I4.hok e2
  cases r0
  refine ⟨rs, c, dd, fun h' dd' hs => ?_⟩
  have m1 := length_mergeK kvs2 []
  rw [List.length_nil] at m1
  have m2 := length_mergeK (mergeK [] kvs2) kvs1
  have hz : (mergeK [] kvs2).length ≤ sizeLine := by rw [sizeLine_eq]; omega
  have he : ∃ q, h'.get? s2.heap.objs.size = some q := let ⟨q, _, _, hq, _⟩ := dd'; ⟨q, hq⟩
  have I5 := d_write (t' := s4.toks + ws.length) I4 (by rw [e2]; exact True.intro) hs he (dk_new hz hd (rk.merge .nil) dd')
  have ne : s.heap.objs.size ≠ s2.heap.objs.size := fun e => by rw [← e, e1] at hn2; cases hn2
  have e4 : (upd H3 s2.heap.objs.size (.dK (mergeK [] kvs2))) s.heap.objs.size = some (.dK kvs1) := by rw [upd_ne ne]; exact e3
  have e5 : (upd H3 s2.heap.objs.size (.dK (mergeK [] kvs2))) s2.heap.objs.size = some (.dK (mergeK [] kvs2)) := upd_same
  obtain ⟨z5, hd5, vs5, r5, dd5⟩ := dk_of I5.hok e4
  obtain ⟨z6, hd6, vs6, r6, dd6⟩ := dk_of I5.hok e5
  have l5 := r5.length
  have l6 := r6.length
  refine wp_merge (knd := mixKind X.prog X.w) ne hd6 dd5 dd6 (fun w => ?_) (by rw [sizeLine_eq]; omega) fun h2 dd2 hs2 => ?_
  · rw [w] at l5
    exact k0 (List.length_eq_zero_iff.mp l5)
  · have he2 : ∃ q, h2.get? s.heap.objs.size = some q := let ⟨q, _, _, hq, _⟩ := dd2; ⟨q, hq⟩
    exact ⟨.ref s.heap.objs.size, _, d_write I5 (by rw [e4]; exact True.intro) hs2 he2 (dk_new (by rw [sizeLine_eq]; omega) hd5 (r6.merge r5) dd2), rfl, q3⟩
end DW

/-! displayed dicts of many texts as own dicts; d.get(k); a module's written dict whose values are data: k in D, D[k] -/
namespace DW
open PySem PySem.Spec PyProof.Rows L2
/-- the written pairs of a display -/
def PrE (g : Gd) (G : List Sl) : List (TE × TE) → List (Str × PyData) → Prop
  | [], [] => True
  | (tk, tv) :: r, (k, d) :: q => E g tk G (.str k) ∧ E g tv G d ∧ PrE g G r q
  | _, _ => False
def putAll (acc q : List (Str × PyData)) : List (Str × PyData) := q.foldl (fun a p => putD a p.1 p.2) acc
theorem putAll_len : ∀ (q acc : List (Str × PyData)), (putAll acc q).length ≤ acc.length + q.length
  | [], acc => Nat.le_refl _
  | p :: q, acc => by
    have h1 := putAll_len q (putD acc p.1 p.2)
    have h2 := putD_len acc p.1 p.2
    show (putAll (putD acc p.1 p.2) q).length ≤ _
    rw [List.length_cons]; omega
section
variable {g : Gd} {G : List Sl} {σ : L2.St} {F1 H1 : Hp} {D : Addr}
theorem put_run (hD : H1 D = none) (hD0 : g.H0 D = none) (hwl : Holds g G σ F1 H1) {Q : Hp → Prop} : ∀ (trs : List (TE × TE)) (q acc : List (Str × PyData)) (F H : Hp) (ws : List (Key × V)), PrE g G trs q → acc.length + q.length ≤ 40000 →
    Stp F1 H1 F H → Holds g G σ F H → F D = none → H D = some (.dK ws) → KvOk g.K F ws acc →
    (∀ F' H' ws', Stp F1 H1 F' H' → Holds g G σ F' H' → F' D = none → H' D = some (.dK ws') → KvOk g.K F' ws' (putAll acc q) → Q H') → tPut D trs σ H Q
  | [], [], acc, F, H, ws, _, _, s, hh, hF, hH, kv, k => k F H ws s hh hF hH kv
  | [], _ :: _, _, _, _, _, h, _, _, _, _, _, _, _ => h.elim
  | _ :: _, [], _, _, _, _, h, _, _, _, _, _, _, _ => h.elim
  | (tk, tv) :: r, (ky, d) :: q, acc, F, H, ws, h, hz, s, hh, hF, hH, kv, k => by
    obtain ⟨ek, ev, er⟩ := h
    have nw := new_ok hwl hD
    refine ek σ F H hh _ fun u F5 H5 s5 d5 => ev σ F5 H5 (hh.mono s5) _ fun z F6 H6 s6 d6 => ?_
    have ss := s5.trans s6
    have hF6 := ss.n D _ hH hF
    have hH6 := ss.h.dk hH
    cases d5
    rw [List.length_cons] at hz
    have lz : ws.length < sizeLine := Nat.lt_of_le_of_lt (Nat.le_of_eq (kv_len kv)) (Nat.lt_of_lt_of_le (show acc.length < 40001 by omega) (by decide))
    refine ⟨ws, Sum.inr ky, rfl, hH6, lz, ?_⟩
    have pl := putD_len acc ky d
    exact put_run hD hD0 hwl r q (putD acc ky d) F6 _ _ er (by omega) ((s.trans ss).mut hD hF6 hH6 (fun _ z => by cases z)) ((hh.mono ss).mut hD0 hF6 hH6 (fun _ z => by cases z) (fun j t e1 m e2 => nw j ⟨t, e1, m⟩ e2)) hF6 upd_same (kv_put (kv.mono ss.f) d6) k
theorem pairs_run {Q : List (V × V) → Hp → Prop} : ∀ (trs : List (TE × TE)) (q : List (Str × PyData)) (F H : Hp), PrE g G trs q → Holds g G σ F H →
    (∀ F' H' (kvs : List (Key × V)), Stp F H F' H' → KvOk g.K F' kvs q → Q (kvs.map fun kv => (kV kv.1, kv.2)) H') → tPairs trs σ H Q
  | [], [], F, H, _, hh, k => k F H [] (Stp.refl hh.st.i) kv_nil
  | [], _ :: _, _, _, h, _, _ => h.elim
  | _ :: _, [], _, _, h, _, _ => h.elim
  | (tk, tv) :: r, (ky, d) :: q, F, H, h, hh, k => by
    obtain ⟨ek, ev, er⟩ := h
    refine ek σ F H hh _ fun u F5 H5 s5 d5 => ev σ F5 H5 (hh.mono s5) _ fun z F6 H6 s6 d6 => ?_
    have ss := s5.trans s6
    cases d5
    refine pairs_run r q F6 H6 er (hh.mono ss) fun F7 H7 kvs s7 kv => ?_
    exact k F7 H7 ((Sum.inr ky, z) :: kvs) (ss.trans s7) (kv_mk rfl (s7.f.dp _ _ d6) kv)
end
theorem kv_mergeK {K : PySem.W.Frag} {F : Hp} : ∀ {more : List (Key × V)} {q : List (Str × PyData)} {vs : List (Key × V)} {acc : List (Str × PyData)}, KvOk K F more q → KvOk K F vs acc → KvOk K F (mergeK vs more) (putAll acc q)
  | [], [], vs, acc, _, h => h
  | [], _ :: _, _, _, h, _ => by cases h.ks
  | _ :: _, [], _, _, h, _ => by cases h.ks
  | u :: more, p :: q, vs, acc, h, h0 => by
    obtain ⟨a, b, c⟩ := kv_cons h
    have e : KvOk K F (putK vs u.1 u.2) (putD acc p.1 p.2) := by rw [a]; exact kv_put h0 b
    show KvOk K F (mergeK (putK vs u.1 u.2) more) (putAll (putD acc p.1 p.2) q)
    exact kv_mergeK c e
section
variable {g : Gd} {G : List Sl} {te tk : TE} {i : Nat} {d : PyData} {kvs : List (Str × PyData)}
theorem eod_dispL {trs1 trs2 : List (TE × TE)} {q1 q2 : List (Str × PyData)} (h1 : PrE g G trs1 q1) (h2 : PrE g G trs2 q2) (n1 : putAll [] q1 ≠ []) (l1 : q1.length ≤ 17) (l2 : q2.length ≤ 15) :
    EOD g (tDispL trs1 trs2) G (putAll (putAll [] q1) (putAll [] q2)) := fun σ F H hh Q q => by
  intro p hp
  have hwl : Holds g G σ F H := hh
  have hD0 : g.H0 p = none := old_free hh.st hp
  have s0 := Stp.mine (o := .dK []) hh.st.i hp
  refine put_run hp hD0 hwl trs1 q1 [] F _ [] h1 (by show 0 + _ ≤ _; omega) s0 (hwl.mono s0) (hh.st.i.free hp) upd_same kv_nil fun F2 H2 ws2 s2 hh2 hF2 hH2 kv2 => ?_
  have m1 := putAll_len q1 []
  have lw := kv_len kv2
  refine ⟨ws2, hH2, fun z => ?_, by rw [lw]; show _ ≤ 17; exact Nat.le_trans m1 (by show 0 + _ ≤ _; omega), fun p2 hp2 => ?_⟩
  · rw [z] at lw
    exact n1 (List.length_eq_zero_iff.mp lw.symm)
  have s3 := Stp.mine (o := .dK []) hh2.st.i hp2
  refine pairs_run trs2 q2 F2 _ h2 (hh2.mono s3) fun F4 H4 kvs2 s4 kv4 => ?_
  have s34 := s3.trans s4
  have ne : p ≠ p2 := fun e => by rw [← e, hH2] at hp2; cases hp2
  have hF2p2 : F2 p2 = none := hh2.st.i.free hp2
  have a1 := s4.h.dk (p := p2) (xs := []) upd_same
  have a2 : F4 p2 = none := s4.n p2 _ upd_same hF2p2
  have b1 := s34.h.dk hH2
  have b2 : F4 p = none := s34.n p _ hH2 hF2
  refine ⟨a1, b1, kvs2, rfl, by rw [kv_len kv4]; exact l2, ?_⟩
  have s5 := s34.mut (o2 := .dK (mergeK [] kvs2)) hp2 a2 a1 (fun _ z => by cases z)
  have e6 : (upd H4 p2 (.dK (mergeK [] kvs2))) p = some (.dK ws2) := by rw [upd_ne ne]; exact b1
  have s6 := (s2.trans s5).mut (o2 := .dK (mergeK ws2 (mergeK [] kvs2))) hp b2 e6 (fun _ z => by cases z)
  exact q p _ F4 _ s6 hp b2 upd_same (kv_mergeK (kv_mergeK kv4 kv_nil) (kv2.mono s34.f))
/-- d.get(k) -/
theorem e_dget1 {k : Str} (h : (G[i]?).bind Sl.kv = some kvs) (hk : E g tk G (.str k)) : E g (tDGet1 (tVar i) tk) G ((getK kvs k).getD .none) := fun σ F H hh Q q => by
  obtain ⟨p, vs, ev, hr, hv⟩ := dict_at hh h
  refine ⟨.ref p, ev, p, rfl, .inl ⟨vs, hr⟩, hk σ F H hh _ fun u F1 H1 s1 d1 => ?_⟩
  cases d1
  refine ⟨valV vs (Sum.inr k : Key), .inl ⟨vs, .inr k, rd_h s1 hr, rfl, rfl⟩, ?_⟩
  cases e : getK kvs k with
  | none => rw [e] at q; rw [(kv_get hv).2 e]; exact q .non F1 H1 s1 .non
  | some d =>
    obtain ⟨v, e1, e2⟩ := (kv_get hv).1 d e
    rw [e] at q; rw [e1]; exact q v F1 H1 s1 (s1.f.dp d v e2)
end
/-! a module's written dict whose values are data -/
/-- what the text says of a written dict: the keys of tab are there with their data, those of ms are not -/
structure KdT (K : PySem.W.Frag) (w : World) (p : Addr) (tab : List (Str × PyData)) (ms : List Str) : Prop where
  kd : KdO K w p
  has : ∀ q ∈ tab, ∃ u v, PySem.W.nsIn K p q.1 = some (some u) ∧ RelV v u ∧ ∀ F, Dp K F v q.2
  non : ∀ k ∈ ms, PySem.W.nsIn K p k = some none
def rKIn (K : PySem.W.Frag) (w : World) : R2 := fun x y H Q => ∃ k p, x = .str k ∧ y = .ref p ∧ KdO K w p ∧ ((∃ u, PySem.W.nsIn K p k = some (some u) ∧ Q (.bl true) H) ∨ (PySem.W.nsIn K p k = some none ∧ Q (.bl false) H))
theorem op_kin {X : Cx} : OpR X (compareOp .In) (rKIn X.K X.w) := by
  intro pins s σ H x y v u Q I rx ry h
  obtain ⟨k, p, rfl, rfl, ⟨es, n, hl, hk, low⟩, q⟩ := h
  obtain ⟨t, rfl⟩ := rx
  cases (show u = Value.ref p from ry)
  have hm := PySem.W.mapOf_K (prog := X.prog) (w := X.w) I.kIn hl hk
  refine wpAny_in_of (knd := PySem.strKind X.prog X.w) (strKind_is X.prog X.w k t) low hm ?_
  rcases q with ⟨u0, e0, q⟩ | ⟨e0, q⟩
  · rw [PySem.W.find_K hl e0]
    exact ⟨V.bl true, H, I.tok _, rfl, q⟩
  · rw [PySem.W.find_K hl e0]
    exact ⟨V.bl false, H, I.tok _, rfl, q⟩
theorem uKIn {X : Cx} (K : PySem.W.Frag) (w : World) (hK : X.K = K := by rfl) (hw : X.w = w := by rfl) : OpR X (compareOp .In) (rKIn K w) := by
  subst hK hw
  exact op_kin
def tKIx (K : PySem.W.Frag) (w : World) (td ty : TE) : TE := fun σ H Q => td σ H fun x H1 => ty σ H1 fun y H2 => ∃ p k u v, x = .ref p ∧ KdO K w p ∧ y = .str k ∧ PySem.W.nsIn K p k = some (some u) ∧ RelV v u ∧ Q v H2
theorem pe_kix {X : Cx} {o i : Expr} {pos : Pos} {td ty : TE} (K : PySem.W.Frag) (w : World) (ho : PE X o td) (hi : PE X i ty) (hs : NoSl i) (hK : X.K = K := by rfl) (hw : X.w = w := by rfl) : PE X (.Subscript o i pos) (tKIx K w td ty) := by
  subst hK hw
  refine ⟨fun pins s σ H Q I h => ?_⟩
  refine subD_of PySem.F.slot_dict_getitem.lookup hs (thn (ho.run pins s σ H _ I h) fun u s1 ⟨x, H1, I1, rx, q1⟩ => thn (hi.run pins s1 σ H1 _ I1 q1) fun iv s2 ⟨y, H2, I2, ry, p, k, u0, v0, ex, ⟨es, n, hl, hk, low⟩, ey, e0, r0, q2⟩ => ?_)
  subst ex ey
  obtain rfl : u = Value.ref p := rx
  obtain ⟨t, rfl⟩ : ∃ t, iv = Value.str k t := ry
  have hm := PySem.W.mapOf_K (prog := X.prog) (w := X.w) I2.kIn hl hk
  exact ⟨hm.typeIs, wpAny_getItem_of (knd := PySem.strKind X.prog X.w) (strKind_is X.prog X.w k t) hm (PySem.W.find_K hl e0) ⟨v0, H2, I2.tok _, r0, q2⟩⟩
section
variable {w : World} {g : Gd} {G : List Sl} {tk : TE} {k : Str} {d : PyData} {p : Addr} {tab : List (Str × PyData)} {ms : List Str}
theorem b_kin (T : KdT g.K w p tab ms) (h : B g tk G (.str k)) (m : (k, d) ∈ tab) : E g (tOp (rKIn g.K w) tk (tC (.ref p))) G (.bool true) := fun σ F H hh Q q => h σ F H hh _ fun v F1 H1 s1 d1 => by
  cases d1
  obtain ⟨u, _, e, _⟩ := T.has _ m
  exact ⟨k, p, rfl, rfl, T.kd, .inl ⟨u, e, q _ F1 H1 s1 (.bl _)⟩⟩
theorem b_knot (T : KdT g.K w p tab ms) (h : B g tk G (.str k)) (m : k ∈ ms) : E g (tOp (rKIn g.K w) tk (tC (.ref p))) G (.bool false) := fun σ F H hh Q q => h σ F H hh _ fun v F1 H1 s1 d1 => by
  cases d1
  exact ⟨k, p, rfl, rfl, T.kd, .inr ⟨T.non _ m, q _ F1 H1 s1 (.bl _)⟩⟩
theorem e_kix (T : KdT g.K w p tab ms) (h : E g tk G (.str k)) (m : (k, d) ∈ tab) : E g (tKIx g.K w (tC (.ref p)) tk) G d := fun σ F H hh Q q => h σ F H hh _ fun v F1 H1 s1 d1 => by
  cases d1
  obtain ⟨u, v0, e, r, dp⟩ := T.has _ m
  exact ⟨p, k, u, v0, rfl, T.kd, rfl, e, r, q v0 F1 H1 s1 (dp F1)⟩
end
end DW

namespace K76
open PySem PySem.Spec PyProof.Rows L2 DW
/- the words of the walk: "side" an arithmetic side, "r" an operator's data, "c" a call's, "e" anything that is evaluated -/
local macro_rules | `(tactic| walk_at "side") => `(tactic| first | assumption | decide | exact Nat.le_of_ble_eq_true rfl | omega | rfl | skip)
local macro_rules | `(tactic| walk_at "r") => `(tactic| first
  | exact add_i | exact sub_i | (apply mod_i; walk_at "side") | (apply div_i <;> walk_at "side") | (apply mul_i; first | (left; constructor <;> omega) | (right; constructor <;> omega) | skip) | (apply pow_i; first | (refine ⟨?_, ?_, ?_⟩ <;> decide) | skip)
  | exact eq_i | exact ne_i | exact eq_s | exact ne_s | exact eq_b | exact ne_b | exact is_n | exact nis_n | exact is_bb | exact nt_bb
  | exact lt_i | exact le_i | exact gt_i | exact ge_i | exact lt_s | (apply add_s; walk_at "side") | (apply mul_s <;> walk_at "side")
  | (apply in_l <;> walk_at "side") | (apply in_t <;> walk_at "side") | (apply ni_l <;> walk_at "side") | (apply ni_t <;> walk_at "side") | exact in_sg | exact ni_sg
  | (apply eqd <;> walk_at "side") | (apply ned <;> walk_at "side")
  | (apply ix_l; walk_at "side") | (apply ix_t; walk_at "side") | (apply ix_s <;> walk_at "side"))
local macro_rules | `(tactic| walk_at "c") => `(tactic| first | exact len_l | exact len_t | (apply len_s; walk_at "side") | exact int_i | exact max_i | exact min_i)
local macro_rules | `(tactic| walk_at "e") => `(tactic| first
  | exact e_var rfl | exact e_int | exact e_str | exact e_bl | exact e_non | exact b_ow rfl | exact a_nil | exact ab_nil | exact ax_nil | exact o_none
  | ((with_reducible apply a_cons); walk_at "e"; walk_at "e") | ((with_reducible apply ab_cons); walk_at "e"; walk_at "e")
  | ((with_reducible apply ax_d); walk_at "e"; walk_at "e") | ((with_reducible apply ax_k); rfl; walk_at "e")
  | ((with_reducible apply e_ixo); rfl; walk_at "e"; walk_at "side")
  | ((with_reducible apply e_op); walk_at "e"; walk_at "e"; walk_at "r")
  | ((with_reducible apply b_op); walk_at "e"; walk_at "e"; walk_at "r"; rfl)
  | ((with_reducible apply b_cb); walk_at "e"; walk_at "c"; rfl)
  | ((with_reducible apply e_neg); walk_at "e")
  | ((with_reducible apply e_isiI); walk_at "e") | ((with_reducible apply e_isiIb); walk_at "e") | ((with_reducible apply e_isiBb); walk_at "e") | ((with_reducible apply e_isiL); walk_at "e") | ((with_reducible apply e_isiT); walk_at "e")
  | ((with_reducible apply e_notT); walk_at "e"; rfl) | ((with_reducible apply t_tru); walk_at "e"; rfl)
  | ((with_reducible apply e_andV); walk_at "e"; intro _; walk_at "e") | ((with_reducible apply t_and); walk_at "e"; intro _; walk_at "e") | ((with_reducible apply t_or); walk_at "e"; intro _; walk_at "e")
  | ((with_reducible apply e_chain); walk_at "e"; walk_at "e"; (intro _; walk_at "e"); walk_at "r"; (intro _; walk_at "r"))
  | ((with_reducible apply t_test); walk_at "e") | ((with_reducible apply t_not); walk_at "e")
  | ((with_reducible apply e_tup); walk_at "e"; walk_at "side") | ((with_reducible apply el_lst); walk_at "e"; walk_at "side")
  | ((with_reducible apply o_some); walk_at "e")
  | ((with_reducible apply b_of); walk_at "e"))
local macro_rules | `(tactic| walk_at "w") => `(tactic| repeat (first | exact Wk.nil | (apply Wk.keep; with_reducible rfl) | apply Wk.drop))

/-! ### the draws of a cell -/
def dg (rest : Int) : Nat → List Int × Int
  | 0 => ([], rest)
  | n + 1 => if 0 < (dg rest n).2 then ((dg rest n).1 ++ [(dg rest n).2 % 1000], (dg rest n).2 / 1000) else dg rest n
def dgs (c : Int) (m : Nat) : List Int := if 1000000000000000000 ≤ c then (dg c m).1 else []
def st0 (c : Int) : Int := (c * 48271 + 11) % 2147483647
def stN (c : Int) : Nat → Int
  | 0 => st0 c
  | n + 1 => (stN c n * 48271 + (n : Int) * 69621 + 7) % 2147483647
def mx (c : Int) (m : Nat) : Nat → List Int
  | 0 => dgs c m
  | n + 1 => if ((mx c m n).length : Int) < m then mx c m n ++ [(stN c (n + 1) * 69621 + 5) % 2147483629 % 1000] else mx c m n
def draws (c : Int) (m : Nat) : List Int := mx c m m
theorem dg_len (c : Int) : ∀ n, (dg c n).1.length ≤ n
  | 0 => Nat.le_refl _
  | n + 1 => by
    have := dg_len c n
    unfold dg
    split
    · rw [List.length_append]; exact Nat.succ_le_succ this
    · omega
theorem dgs_len (c : Int) (m : Nat) : (dgs c m).length ≤ m := by
  unfold dgs
  split
  · exact dg_len c m
  · exact Nat.zero_le _
theorem mx_len (c : Int) (m : Nat) : ∀ n, (mx c m n).length ≤ m ∧ min m n ≤ (mx c m n).length
  | 0 => ⟨dgs_len c m, by omega⟩
  | n + 1 => by
    have := mx_len c m n
    unfold mx
    split
    · rw [List.length_append]; show _ + 1 ≤ m ∧ _ ≤ _ + 1; omega
    · omega
theorem draws_len (c : Int) (m : Nat) : (draws c m).length = m := by
  have := mx_len c m m
  unfold draws
  omega
theorem m1000 (z : Int) : 0 ≤ z % 1000 ∧ z % 1000 < 1000 := ⟨Int.emod_nonneg _ (by decide), Int.emod_lt_of_pos _ (by decide)⟩
theorem dg_mem (c : Int) : ∀ n, ∀ z ∈ (dg c n).1, 0 ≤ z ∧ z < 1000
  | 0 => fun z h => by cases h
  | n + 1 => fun z h => by
    unfold dg at h
    split at h
    · rcases List.mem_append.mp h with h | h
      · exact dg_mem c n z h
      · rw [List.mem_singleton.mp h]; exact m1000 _
    · exact dg_mem c n z h
theorem mx_mem (c : Int) (m : Nat) : ∀ n, ∀ z ∈ mx c m n, 0 ≤ z ∧ z < 1000
  | 0 => fun z h => by
    unfold mx dgs at h
    split at h
    · exact dg_mem c m z h
    · cases h
  | n + 1 => fun z h => by
    unfold mx at h
    split at h
    · rcases List.mem_append.mp h with h | h
      · exact mx_mem c m n z h
      · rw [List.mem_singleton.mp h]; exact m1000 _
    · exact mx_mem c m n z h
theorem draws_mem {c : Int} {m : Nat} {z : Int} (h : z ∈ draws c m) : 0 ≤ z ∧ z < 1000 := mx_mem c m m z h
theorem stN_bd (c : Int) : ∀ n, 0 ≤ stN c n ∧ stN c n < 2147483647
  | 0 => ⟨Int.emod_nonneg _ (by decide), Int.emod_lt_of_pos _ (by decide)⟩
  | n + 1 => ⟨Int.emod_nonneg _ (by decide), Int.emod_lt_of_pos _ (by decide)⟩

/-! ### data -/
abbrev iL (xs : List Int) : PyData := .list (xs.map .int)
abbrev sL (ns : List Str) : PyData := .list (ns.map .str)
abbrev prD (p : Str × Str) : PyData := .tuple [.str p.1, .str p.2]
abbrev lbD (L : List (Str × Str)) : PyData := .tuple (L.map prD)
def itI (xs : List Int) (k : Int) : Int := xs.getD k.toNat 0
def itS (ns : List Str) (k : Int) : Str := ns.getD k.toNat Str.empty
theorem at_nat {α : Type} {xs : List α} {k : Int} (h0 : 0 ≤ k) (h1 : k.toNat < xs.length) : atI xs k = xs[k.toNat]? := by
  obtain ⟨n, rfl⟩ := Int.eq_ofNat_of_zero_le h0
  have h2 : n < xs.length := h1
  rw [atI_nat (List.getElem?_eq_getElem h2)]
  exact (List.getElem?_eq_getElem h2).symm
theorem at_int {xs : List Int} {k : Int} (h0 : 0 ≤ k) (h1 : k < xs.length) : atI (xs.map PyData.int) k = some (.int (itI xs k)) := by
  rw [at_nat h0 (by rw [List.length_map]; omega), List.getElem?_map]
  unfold itI
  rw [List.getD_eq_getElem?_getD, List.getElem?_eq_getElem (by omega)]; rfl
theorem at_str {xs : List Str} {k : Int} (h0 : 0 ≤ k) (h1 : k < xs.length) : atI (xs.map PyData.str) k = some (.str (itS xs k)) := by
  rw [at_nat h0 (by rw [List.length_map]; omega), List.getElem?_map]
  unfold itS
  rw [List.getD_eq_getElem?_getD, List.getElem?_eq_getElem (by omega)]; rfl
theorem itI_mem {xs : List Int} {k : Int} (h0 : 0 ≤ k) (h1 : k < xs.length) : itI xs k ∈ xs := by
  unfold itI
  rw [List.getD_eq_getElem?_getD, List.getElem?_eq_getElem (by omega)]; exact List.getElem_mem _
theorem itS_mem {xs : List Str} {k : Int} (h0 : 0 ≤ k) (h1 : k < xs.length) : itS xs k ∈ xs := by
  unfold itS
  rw [List.getD_eq_getElem?_getD, List.getElem?_eq_getElem (by omega)]; exact List.getElem_mem _
/-- a sign of a text -/
def sg (s : Str) (k : Int) : Str := ⟨#[s.cps.toList.getD k.toNat 0]⟩
theorem at_sg {s : Str} {k : Int} (h0 : 0 ≤ k) (h1 : k < s.cps.toList.length) : atI s.cps.toList k = some (s.cps.toList.getD k.toNat 0) := by
  rw [at_nat h0 (by omega), List.getD_eq_getElem?_getD, List.getElem?_eq_getElem (by omega)]; rfl
theorem sg_len (s : Str) (k : Int) : (sg s k).length = 1 := rfl
theorem add_len (a b : Str) : (a ++ b).length = a.length + b.length := by
  show (a.cps ++ b.cps).size = _
  rw [Array.size_append]; rfl
theorem md (a b : Int) (h : 0 < b) : 0 ≤ a % b ∧ a % b < b := ⟨Int.emod_nonneg _ (by omega), Int.emod_lt_of_pos _ h⟩
/-! names, worths -/
def LT1 : Str := "abcdefghijklmnopqrstuvwxyz0123456789_"
def LT2 : Str := "0123456789_abcdefghijklmnopqrstuvwxyz"
def nmF (a b : Int) : Str :=
  if b % 5 = 0 then sg LT1 (a % 26) else if b % 5 = 1 then sg LT1 (a % 26) ++ sg LT1 (b / 5 % 37)
  else if b % 25 = 24 then sg LT1 (a % 26) ++ sg LT1 (b / 5 % 37) ++ mulS "_" 17 ++ sg LT1 (a / 26 % 37)
  else sg LT1 (a % 26) ++ sg LT1 (b / 5 % 37) ++ sg LT1 (a / 26 % 37)
def wrF (a b : Int) : Str :=
  if b % 4 = 0 then sg LT2 (a % 37) else if b % 32 = 31 then mulS (sg LT2 (a % 37)) 19 ++ sg LT2 (b / 4 % 37)
  else sg LT2 (a % 37) ++ sg LT2 (b / 4 % 37)
theorem mul19 (c : Nat) : (mulS ⟨#[c]⟩ 19).length = 19 := by
  unfold mulS
  rw [if_neg (by decide), if_neg (by intro h; exact absurd h (by show ¬ ((19:Int) == 1 || (#[c] : Array Nat).size == 0) = true; simp))]
  show ((List.replicate 19 #[c]).foldl (· ++ ·) #[]).size = 19
  simp [List.replicate]
theorem mul17 : (mulS "_" 17).length = 17 := by
  have e : ("_" : Str) = ⟨#[95]⟩ := by decide +kernel
  rw [e]
  unfold mulS
  rw [if_neg (by decide), if_neg (by intro h; exact absurd h (by show ¬ ((17:Int) == 1 || (#[95] : Array Nat).size == 0) = true; simp))]
  show ((List.replicate 17 #[95]).foldl (· ++ ·) #[]).size = 17
  simp [List.replicate]
theorem wr_len (a b : Int) : 1 ≤ (wrF a b).length := by
  unfold wrF
  split
  · rw [sg_len]; decide
  · split
    · rw [add_len, sg_len]; omega
    · rw [add_len, sg_len]; omega

def topS (i : Nat) : Stmt := PySem.Challenge.pw_watchfloor_k76_configuration_words_check.main.body.getD i (.Pass ⟨0, 0, 0, 0⟩)
abbrev s_is_name : Stmt := topS 4
abbrev N_is_name : List Str := ["text"]
theorem sc_is_name : FnScope N_is_name ["text"] (defScope s_is_name) := ⟨rfl, rfl, rfl, by decide +kernel, rfl, by decide +kernel, by decide +kernel⟩
abbrev s_is_value : Stmt := topS 5
abbrev N_is_value : List Str := ["text", "character"]
theorem sc_is_value : FnScope N_is_value ["text"] (defScope s_is_value) := ⟨rfl, rfl, rfl, by decide +kernel, rfl, by decide +kernel, by decide +kernel⟩
abbrev s_check_words : Stmt := topS 12
abbrev N_check_words : List Str := ["words", "word", "further", "sorts", "sort", "text"]
theorem sc_check_words : FnScope N_check_words ["words"] (defScope s_check_words) := ⟨rfl, rfl, rfl, by decide +kernel, rfl, by decide +kernel, by decide +kernel⟩
abbrev s_sorts_for : Stmt := topS 13
abbrev N_sorts_for : List Str := ["word", "many", "fixed", "more"]
theorem sc_sorts_for : FnScope N_sorts_for ["word", "many"] (defScope s_sorts_for) := ⟨rfl, rfl, rfl, by decide +kernel, rfl, by decide +kernel, by decide +kernel⟩
abbrev s_is_of_sort : Stmt := topS 14
abbrev N_is_of_sort : List Str := ["sort", "text"]
theorem sc_is_of_sort : FnScope N_is_of_sort ["sort", "text"] (defScope s_is_of_sort) := ⟨rfl, rfl, rfl, by decide +kernel, rfl, by decide +kernel, by decide +kernel⟩
abbrev s_is_number : Stmt := topS 15
abbrev N_is_number : List Str := ["text", "character"]
theorem sc_is_number : FnScope N_is_number ["text"] (defScope s_is_number) := ⟨rfl, rfl, rfl, by decide +kernel, rfl, by decide +kernel, by decide +kernel⟩
abbrev s_l_law_draws : Stmt := topS 17
abbrev N_l_law_draws : List Str := ["cell", "many", "rows", "rest", "k", "state"]
theorem sc_l_law_draws : FnScope N_l_law_draws ["cell", "many"] (defScope s_l_law_draws) := ⟨rfl, rfl, rfl, by decide +kernel, rfl, by decide +kernel, by decide +kernel⟩
abbrev s_l_law_shape : Stmt := topS 18
abbrev N_l_law_shape : List Str := ["word", "shapes"]
theorem sc_l_law_shape : FnScope N_l_law_shape ["word"] (defScope s_l_law_shape) := ⟨rfl, rfl, rfl, by decide +kernel, rfl, by decide +kernel, by decide +kernel⟩
abbrev s_l_law_further : Stmt := topS 19
abbrev N_l_law_further : List Str := ["word"]
theorem sc_l_law_further : FnScope N_l_law_further ["word"] (defScope s_l_law_further) := ⟨rfl, rfl, rfl, by decide +kernel, rfl, by decide +kernel, by decide +kernel⟩
abbrev s_l_law_consists : Stmt := topS 20
abbrev N_l_law_consists : List Str := ["text", "chars", "char"]
theorem sc_l_law_consists : FnScope N_l_law_consists ["text", "chars"] (defScope s_l_law_consists) := ⟨rfl, rfl, rfl, by decide +kernel, rfl, by decide +kernel, by decide +kernel⟩
abbrev s_l_law_right : Stmt := topS 21
abbrev N_l_law_right : List Str := ["kind", "word", "small", "plain"]
theorem sc_l_law_right : FnScope N_l_law_right ["kind", "word"] (defScope s_l_law_right) := ⟨rfl, rfl, rfl, by decide +kernel, rfl, by decide +kernel, by decide +kernel⟩
abbrev s_l_law_checked : Stmt := topS 22
abbrev N_l_law_checked : List Str := ["words", "shape", "many", "k"]
theorem sc_l_law_checked : FnScope N_l_law_checked ["words"] (defScope s_l_law_checked) := ⟨rfl, rfl, rfl, by decide +kernel, rfl, by decide +kernel, by decide +kernel⟩
abbrev s_l_law_word : Stmt := topS 23
abbrev N_l_law_word : List Str := ["kind", "draw", "many", "letters", "word"]
theorem sc_l_law_word : FnScope N_l_law_word ["kind", "draw"] (defScope s_l_law_word) := ⟨rfl, rfl, rfl, by decide +kernel, rfl, by decide +kernel, by decide +kernel⟩
abbrev s_l_law_wrong : Stmt := topS 24
abbrev N_l_law_wrong : List Str := ["kind", "draw", "many", "long"]
theorem sc_l_law_wrong : FnScope N_l_law_wrong ["kind", "draw"] (defScope s_l_law_wrong) := ⟨rfl, rfl, rfl, by decide +kernel, rfl, by decide +kernel, by decide +kernel⟩
abbrev s_l_law_first : Stmt := topS 25
abbrev N_l_law_first : List Str := ["draws", "known", "strange"]
theorem sc_l_law_first : FnScope N_l_law_first ["draws"] (defScope s_l_law_first) := ⟨rfl, rfl, rfl, by decide +kernel, rfl, by decide +kernel, by decide +kernel⟩
abbrev s_l_law_list : Stmt := topS 26
abbrev N_l_law_list : List Str := ["cell", "draws", "first", "shape", "words", "place", "k"]
theorem sc_l_law_list : FnScope N_l_law_list ["cell"] (defScope s_l_law_list) := ⟨rfl, rfl, rfl, by decide +kernel, rfl, by decide +kernel, by decide +kernel⟩
abbrev s_law : Stmt := topS 27
abbrev N_law : List Str := ["script", "cell", "words", "due", "handed", "told"]
theorem sc_law : FnScope N_law ["script"] (defScope s_law) := ⟨rfl, rfl, rfl, by decide +kernel, rfl, by decide +kernel, by decide +kernel⟩

section
variable {P : Program} {w : World} {K : PySem.W.Frag} {mg : Str → Option Value} {base : Heap} {f : Addr} {fd : FuncData} {Tb : List Addr} {k : Nat}
def R_draws : List PyData → PyData → Prop := fun ds d => ∃ (c : Int) (m : Nat), ds = [.int c, .int m] ∧ m ≤ 1000 ∧ d = .list ((draws c m).map .int)
theorem ok_draws (Fn : Fun K "_law_draws" "_law_draws" s_l_law_draws f fd) (hm : mg "_law_draws" = some (.ref f)) (hb : Binds K fd ["cell", "many"] []) (Z : Zb mg) :
    Df P w K mg base 1 "_law_draws" ["cell", "many"] (spD K Tb R_draws) := by
  refine df_D Fn sc_l_law_draws hm hb (fun ds d h => by obtain ⟨c, m, rfl, _⟩ := h; rfl) fun cdv A outer s H Ek hr => ⟨_, (pss_cons (ps_set (i := 2) sc_l_law_draws.nd rfl (by first | exact .inl rfl | exact .inr rfl) (pe_lst pa_nil))
      (pss_cons (ps_set (i := 3) sc_l_law_draws.nd rfl (by first | exact .inl rfl | exact .inr rfl) (pe_callTy uInt (by rfl) Z.int (by decide +kernel) (pa_cons (pv 0) pa_nil)))
      (Evl.pss_cut (ps_if (pt_cmpR op_ge (pv 3) (pe_op op_pow pe_int pe_int) (nomark _)) (pss_one (ps_for PassesOwn.never rfl (pi_range1 (by rfl) Z.range (pa_cons (pv 1) pa_nil)) (pg_name (i := 4) sc_l_law_draws.nd rfl (by first | exact .inl rfl | exact .inr rfl)) (pss_one (ps_if (pt_cmpR op_gt (pv 3) pe_int (nomark _)) (pss_cons (ps_expr (pe_bm PySem.F.plainAttrs_list PySem.F.slot_list_append PySem.F.type_list_append mt_append (pv 2) (pa_cons (pe_op op_mod (pe_callTy uInt (by rfl) Z.int (by decide +kernel) (pa_cons (pv 3) pa_nil)) pe_int) pa_nil)))
      (pss_one (ps_set (i := 3) sc_l_law_draws.nd rfl (by first | exact .inl rfl | exact .inr rfl) (pe_op op_fdiv (pv 3) pe_int)))) pss_nil)))) pss_nil)
      (pss_cons (ps_set (i := 5) sc_l_law_draws.nd rfl (by first | exact .inl rfl | exact .inr rfl) (pe_op op_mod (pe_callTy uInt (by rfl) Z.int (by decide +kernel) (pa_cons (pe_op (uAddK K) (pe_op uMul (pe_callTy uInt (by rfl) Z.int (by decide +kernel) (pa_cons (pv 0) pa_nil)) pe_int) pe_int) pa_nil)) pe_int))
      (pss_cons (ps_for PassesOwn.never rfl (pi_range1 (by rfl) Z.range (pa_cons (pv 1) pa_nil)) (pg_name (i := 4) sc_l_law_draws.nd rfl (by first | exact .inl rfl | exact .inr rfl)) (pss_cons (ps_set (i := 5) sc_l_law_draws.nd rfl (by first | exact .inl rfl | exact .inr rfl) (pe_op op_mod (pe_callTy uInt (by rfl) Z.int (by decide +kernel) (pa_cons (pe_op (uAddK K) (pe_op (uAddK K) (pe_op uMul (pv 5) pe_int) (pe_op uMul (pv 4) pe_int)) pe_int) pa_nil)) pe_int))
      (pss_one (ps_if (pt_cmpR uLt (pe_callB (uLenK K) (by rfl) Z.len (by decide +kernel) (pa_cons (pv 2) pa_nil)) (pv 1) (nomark _)) (pss_one (ps_expr (pe_bm PySem.F.plainAttrs_list PySem.F.slot_list_append PySem.F.type_list_append mt_append (pv 2) (pa_cons (pe_op op_mod (pe_callTy uInt (by rfl) Z.int (by decide +kernel) (pa_cons (pe_op op_mod (pe_callTy uInt (by rfl) Z.int (by decide +kernel) (pa_cons (pe_op (uAddK K) (pe_op uMul (pv 5) pe_int) pe_int) pa_nil)) pe_int) pa_nil)) pe_int) pa_nil)))) pss_nil))))
      (pss_one (ps_ret (pv 2)))))))), fun ds d F0 H0 Q r rt => ?_⟩
  obtain ⟨c, m, rfl, hm, rfl⟩ := r
  have e18 : ((10 : Int) ^ (18 : Int).toNat) = 1000000000000000000 := by decide
  refine q_asgL (el_lst a_nil (by decide)) ?_
  refine q_asg (d := .int c) ?_ ?_
  · walk_at "e"
  -- the digits
  refine s_cutA (fun r0 : Int => [.fz (.int c), .fz (.int m), .ow ((dgs c m).map .int), .fz (.int r0), .un, .un]) (fun _ => True) ?_ fun r0 _ => ?_
  · refine s_if (b := decide (1000000000000000000 ≤ c)) ?_ (fun hb => ?_) fun hb => ?_
    · walk_at "e"
    · let Iv : Nat → List Sl := fun i => [.fz (.int c), .fz (.int m), .ow ((dg c i).1.map .int), .fz (.int (dg c i).2), .un, .un]
      refine s_for1 Iv (it_rng1 (n := (m : Int)) ?_ (by omega) (by omega)) (Wk.refl _) (fun F1 i d hd => ?_) ?_
      · walk_at "e"
      · obtain ⟨hi, rfl⟩ := rngD_get hd
        refine ⟨_, _, g_name, ?_⟩
        refine s_if (b := decide (0 < (dg c i).2)) ?_ (fun h => ?_) fun h => ?_
        · walk_at "e"
        · have e : dg c (i + 1) = ((dg c i).1 ++ [(dg c i).2 % 1000], (dg c i).2 / 1000) := by
            show (if _ then _ else _) = _
            rw [if_pos (of_decide_eq_true h)]
          refine q_app rfl (d := .int ((dg c i).2 % 1000)) ?_ ?_ ?_
          · walk_at "e"
          · rw [List.length_map]; have := dg_len c i; omega
          · refine s_asg (d := .int ((dg c i).2 / 1000)) ?_ ?_
            · walk_at "e"
            · refine n_end1 (.keep rfl (.keep rfl (.keep ?_ (.keep ?_ (.drop (.keep rfl .nil))))))
              · show Sl.ow ((dg c (i + 1)).1.map .int) = _
                rw [e, List.map_append]; rfl
              · show Sl.fz (.int (dg c (i + 1)).2) = _
                rw [e]
        · have e : dg c (i + 1) = dg c i := by
            show (if _ then _ else _) = _
            rw [if_neg (of_decide_eq_false h)]
          refine s_next (n_end1 (.keep rfl (.keep rfl (.keep ?_ (.keep ?_ (.drop (.keep rfl .nil)))))))
          · show Sl.ow ((dg c (i + 1)).1.map .int) = _
            rw [e]
          · show Sl.fz (.int (dg c (i + 1)).2) = _
            rw [e]
      · have e : (rngD 0 ((m : Int)).toNat).length = m := by rw [rngD_len]; omega
        rw [e]
        have e2 : (dg c m).1 = dgs c m := by unfold dgs; rw [if_pos (of_decide_eq_true hb)]
        refine n_end (dg c m).2 trivial (.keep rfl (.keep rfl (.keep ?_ (.keep rfl (.keep rfl (.keep rfl .nil))))))
        rw [e2]
    · have e2 : dgs c m = [] := by unfold dgs; rw [if_neg (of_decide_eq_false hb)]
      refine s_next (n_end c trivial (.keep rfl (.keep rfl (.keep ?_ (.keep rfl (.keep rfl (.keep rfl .nil)))))))
      rw [e2]; rfl
  · refine q_asg (d := .int (st0 c)) ?_ ?_
    · walk_at "e"
    · let Iv : Nat → List Sl := fun i => [.fz (.int c), .fz (.int m), .ow ((mx c m i).map .int), .fz (.int r0), .un, .fz (.int (stN c i))]
      refine q_for1 Iv (it_rng1 (n := (m : Int)) ?_ (by omega) (by omega)) (Wk.refl _) (fun F1 i d hd => ?_) ?_
      · walk_at "e"
      · obtain ⟨hi, rfl⟩ := rngD_get hd
        have hb := stN_bd c i
        have hb2 := stN_bd c (i + 1)
        refine ⟨_, _, g_name, ?_⟩
        refine q_asg (d := .int (stN c (i + 1))) ?_ ?_
        · have e : stN c (i + 1) = (stN c i * 48271 + (0 + (i : Int)) * 69621 + 7) % 2147483647 := by rw [Int.zero_add]; rfl
          rw [e]
          walk_at "e"
        · refine s_if (b := decide (((mx c m i).length : Int) < m)) ?_ (fun h => ?_) fun h => ?_
          · have e : (((mx c m i).map PyData.int).length : Int) = (mx c m i).length := by rw [List.length_map]
            rw [← e]
            walk_at "e"
          · refine s_app rfl (d := .int ((stN c (i + 1) * 69621 + 5) % 2147483629 % 1000)) ?_ ?_ ?_
            · walk_at "e"
            · rw [List.length_map]; have := mx_len c m i; omega
            · refine n_end1 ?_
              have e : mx c m (i + 1) = mx c m i ++ [(stN c (i + 1) * 69621 + 5) % 2147483629 % 1000] := by
                show (if _ then _ else _) = _
                rw [if_pos (of_decide_eq_true h)]
              refine .keep rfl (.keep rfl (.keep ?_ (.keep rfl (.drop (.keep rfl .nil)))))
              show Sl.ow ((mx c m (i + 1)).map .int) = _
              rw [e, List.map_append]; rfl
          · refine s_next (n_end1 ?_)
            have e : mx c m (i + 1) = mx c m i := by
              show (if _ then _ else _) = _
              rw [if_neg (of_decide_eq_false h)]
            refine .keep rfl (.keep rfl (.keep ?_ (.keep rfl (.drop (.keep rfl .nil)))))
            show Sl.ow ((mx c m (i + 1)).map .int) = _
            rw [e]
      · have e : (rngD 0 ((m : Int)).toNat).length = m := by rw [rngD_len]; omega
        rw [e]
        exact s_retO rfl (RtL.of (D := { nx := fun x H' => Q V.non H', rt := Q }) rt)

end
theorem ints_lay : ∀ xs : List Int, PyData.canLayAll0 (xs.map .int) = true
  | [] => rfl
  | x :: xs => by show (true && PyData.canLayAll0 (xs.map .int)) = true; rw [ints_lay xs]; rfl
theorem ints_deep : ∀ xs : List Int, PyData.depthAll (xs.map .int) ≤ 0
  | [] => Nat.le_refl _
  | x :: xs => by show max 0 (PyData.depthAll (xs.map .int)) ≤ 0; have := ints_deep xs; omega
theorem ints_shp (xs : List Int) : SeqAt.shaped (.list (xs.map .int)) = true := by
  have h1 : (PyData.list (xs.map .int)).canLay0 = true := ints_lay xs
  have h2 : (PyData.list (xs.map .int)).depth ≤ 64 := by show PyData.depthAll (xs.map .int) + 1 ≤ 64; have := ints_deep xs; omega
  unfold SeqAt.shaped
  rw [h1, decide_eq_true h2]; rfl
theorem eqv_same {d : PyData} (h : SeqAt.shaped d = true) : PyData.eqv d d = true := SeqAt.eqv_refl d (SeqAt.canLay_of_shaped h)
theorem map_get {α : Type} {f : α → PyData} {l : List α} {i : Nat} {d : PyData} (h : (l.map f)[i]? = some d) : ∃ x, l[i]? = some x ∧ d = f x := by
  rw [List.getElem?_map] at h
  cases e : l[i]? with
  | none => rw [e] at h; cases h
  | some x => rw [e] at h; exact ⟨x, rfl, (Option.some.inj h).symm⟩
theorem drop_get {α : Type} {l : List α} {i : Nat} {x : α} (h : l[i]? = some x) : l.drop i = x :: l.drop (i + 1) := by
  obtain ⟨hi, e⟩ := List.getElem?_eq_some_iff.mp h
  rw [← e]; exact List.drop_eq_getElem_cons hi

/-! ### lists made by a walk -/
def fI (q : Int → PyData) : PyData → Option PyData
  | .int i => some (q i)
  | _ => none
theorem fm_map {α : Type} {a h : α → PyData} {f : PyData → Option PyData} (e : ∀ x, f (a x) = some (h x)) : ∀ (l : List α), (l.map a).filterMap f = l.map h
  | [] => rfl
  | x :: l => by rw [List.map_cons, List.filterMap_cons, e x, fm_map e l]; rfl
theorem fI_rng (q : Int → PyData) (n : Nat) : (rngD 0 n).filterMap (fI q) = (List.range n).map fun k => q (0 + (k : Nat)) := fm_map (f := fI q) (a := fun i : Nat => PyData.int (0 + (i : Nat))) (h := fun k => q (0 + (k : Nat))) (fun _ => rfl) _
theorem fI_ints (q : Int → PyData) (xs : List Int) : (xs.map PyData.int).filterMap (fI q) = xs.map q := fm_map (f := fI q) (a := PyData.int) (h := q) (fun _ => rfl) _
def g1 (G : List Sl) : PyData → List Sl := fun d => G ++ [.fz d]
def cutA {α : Type} (ds : List α) (lo hi : Option Int) : List α := (ds.drop (HT.sIx ds.length 0 lo)).take (HT.sIx ds.length ds.length hi - HT.sIx ds.length 0 lo)
theorem cut_map {α : Type} (a : α → PyData) (l : List α) (lo hi : Option Int) : DW.cutD (l.map a) lo hi = (cutA l lo hi).map a := by
  unfold DW.cutD cutA
  rw [List.length_map, List.map_take, List.map_drop]
theorem cut_mem {α : Type} {l : List α} {lo hi : Option Int} {x : α} (h : x ∈ cutA l lo hi) : x ∈ l := List.mem_of_mem_drop (List.mem_of_mem_take h)
theorem cut_len {α : Type} (l : List α) (lo hi : Option Int) : (cutA l lo hi).length ≤ l.length := by
  unfold cutA; rw [List.length_take, List.length_drop]; omega

/-! texts in lists of texts -/
theorem inD_str (a : Str) : ∀ (ns : List Str), inD (.str a) (ns.map .str) = decide (a ∈ ns)
  | [] => rfl
  | n :: ns => by
    have ih := inD_str a ns
    unfold inD inV at ih ⊢
    rw [List.map_cons, List.map_cons, List.any_cons, ih]
    show ((n == a) || _) = _
    rw [Bool.eq_iff_iff, Bool.or_eq_true, beq_iff_eq, decide_eq_true_iff, decide_eq_true_iff, List.mem_cons]
    exact or_congr eq_comm Iff.rfl
theorem scal_strs : ∀ (ns : List Str), (ns.map PyData.str).all scalD = true
  | [] => rfl
  | _ :: ns => by rw [List.map_cons, List.all_cons, scal_strs ns]; rfl

/-! ### texts that are names and values -/
def LE : Str := "abcdefghijklmnopqrstuvwxyz"
def DG : Str := "0123456789_"
def CH : Str := "abcdefghijklmnopqrstuvwxyz_0123456789"
def inC (z : Str) (c : Nat) : Bool := decide (c ∈ z.cps.toList)
def hdC (t : Str) : Nat := t.cps.toList.getD 0 0
def lenB (t : Str) : Bool := decide ((1 : Int) ≤ t.length) && decide ((t.length : Int) ≤ 20)
def valB (t : Str) : Bool := lenB t && t.cps.toList.all (inC CH)
def namB (t : Str) : Bool := valB t && inC LE (hdC t)
def rowB (t : Str) (b : Bool) : Bool := lenB t && ((!b || inC LE (hdC t)) && t.cps.toList.all fun c => inC LE c || inC DG c)
theorem ch_or (c : Nat) : inC CH c = (inC LE c || inC DG c) := by
  have e : CH.cps.toList = LE.cps.toList ++ ("_0123456789" : Str).cps.toList := by decide +kernel
  have p : ("_0123456789" : Str).cps.toList.Perm DG.cps.toList := List.isPerm_iff.mp (by decide +kernel)
  unfold inC
  rw [e, Bool.eq_iff_iff, Bool.or_eq_true, decide_eq_true_iff, decide_eq_true_iff, decide_eq_true_iff, List.mem_append, p.mem_iff]
theorem ch_all (t : Str) : (t.cps.toList.all fun c => inC LE c || inC DG c) = t.cps.toList.all (inC CH) := by
  congr 1; funext c; exact (ch_or c).symm
theorem row_val (t : Str) : rowB t false = valB t := by
  unfold rowB valB
  rw [ch_all]; simp
theorem row_nam (t : Str) : rowB t true = namB t := by
  unfold rowB namB valB
  rw [ch_all]
  cases lenB t <;> cases inC LE (hdC t) <;> cases t.cps.toList.all (inC CH) <;> rfl
theorem len_pos {t : Str} (h : lenB t = true) : 1 ≤ t.length ∧ t.length ≤ 20 := by
  unfold lenB at h
  rw [Bool.and_eq_true, decide_eq_true_iff, decide_eq_true_iff] at h
  omega
theorem at_hdC {t : Str} (h : 1 ≤ t.length) : atI t.cps.toList 0 = some (hdC t) := by
  have h' : 0 < t.cps.toList.length := by rw [Array.length_toList]; exact h
  rw [at_nat (by decide) (by omega)]
  unfold hdC
  rw [List.getD_eq_getElem?_getD]
  show t.cps.toList[0]? = _
  rw [List.getElem?_eq_getElem h']; rfl
def fCh : PyData → Bool
  | .str s => inC CH (hdC s)
  | _ => true
theorem fCh_all (t : Str) : (sgD t).all fCh = t.cps.toList.all (inC CH) := by
  unfold sgD
  rw [List.all_map]; rfl
section
variable {P : Program} {w : World} {K : PySem.W.Frag} {mg : Str → Option Value} {base : Heap} {f : Addr} {fd : FuncData} {Tb : List Addr} {k : Nat}
def R_isv : List PyData → PyData → Prop := fun ds d => ∃ t : Str, ds = [.str t] ∧ t.length ≤ 100000 ∧ d = .bool (valB t)
def R_isn : List PyData → PyData → Prop := fun ds d => ∃ t : Str, ds = [.str t] ∧ t.length ≤ 100000 ∧ d = .bool (namB t)
theorem ok_isv {c Pt : Addr} (Fn : Fun K "is_value" "is_value" s_is_value f fd) (hm : mg "is_value" = some (.ref f)) (hb : Binds K fd ["text"] []) (Z : Zb mg)
    (hns : PySem.W.nsIn K mainGlobals "is_value" = some (some (.ref f))) (ht : PySem.W.tabIn K "is_value" = some (c, Pt)) (TB_is_value : GxR.TabB base mg c Pt) (hP : Pt ∈ Tb)
    (C_LONGEST_WORD : ∃ u, mg "LONGEST_WORD" = some u ∧ RelV (.int 20) u) (C_CHARACTERS : ∃ u, mg "CHARACTERS" = some u ∧ RelV (.str CH) u) :
    Df P w K mg base 2 "is_value" ["text"] (spD K Tb R_isv) := by
  refine df_DT Fn hns ht sc_is_value hm hb (fun ds d h => by obtain ⟨_, rfl, _⟩ := h; rfl) fun A outer s H Ek hr => ⟨_, (pss_one (ps_ret (pe_and (pe_chain op_le op_le pe_int (pe_callB (uLenK K) (by rfl) Z.len (by decide +kernel) (pa_cons (pv 0) pa_nil)) (pe_gc C_LONGEST_WORD (by rfl))) (pe_one (GA.pe_allG (own := [("character", 1)]) hr (by rfl) sc_is_value.nd TB_is_value rfl (by rfl) Z.all (by decide +kernel) (blkOk_by (own := [("character", 1)]) (N := N_is_value) (sc := defScope s_is_value) (by decide +kernel)) (GA.genOk_by (by decide +kernel)) (pi_any (pv 0)) (fun _ _ _ _ _ _ _ => (pg_name (i := 1) sc_is_value.nd rfl (by first | exact .inl rfl | exact .inr rfl))) (fun _ _ _ _ _ _ _ hr => (pe_cmpR (uInK K) (pv 1) (pe_gc C_CHARACTERS (by rfl)) (by rfl))) (fun _ => rfl)))))),  fun ds d F0 H0 Q r rt => ?_⟩
  obtain ⟨t, rfl, hl, rfl⟩ := r
  unfold valB at rt
  rw [← fCh_all, ← quant_all] at rt
  refine s_ret (e_andV (e_chain (E.b e_int) (by walk_at "e") (fun _ => E.b e_int) le_i fun _ => le_i) fun _ => e_quant (ix := [1]) hP fCh (fun y => [.fz (.str t), .fz y]) (it_as (e_var rfl)) (fun F1 d hd => g_name) (by decide) fun F1 d hd => ?_) rt
  obtain ⟨c, _, rfl⟩ := List.mem_map.mp hd
  exact b_op (E.b (e_var rfl)) (E.b e_str) in_sg rfl
theorem ok_isn (Fn : Fun K "is_name" "is_name" s_is_name f fd) (hm : mg "is_name" = some (.ref f)) (hb : Binds K fd ["text"] []) (Z : Zb mg)
    (C_LETTERS : ∃ u, mg "LETTERS" = some u ∧ RelV (.str LE) u)
    (D_is_value : Df P w K mg base 2 "is_value" ["text"] (spD K Tb R_isv)) :
    Df P w K mg base 3 "is_name" ["text"] (spD K Tb R_isn) := by
  refine df_D Fn sc_is_name hm hb (fun ds d h => by obtain ⟨_, rfl, _⟩ := h; rfl) fun cdv A outer s H Ek hr => ⟨_, (pss_one (ps_ret (pe_and (pe_df D_is_value hr (by first | decide | exact Nat.le_refl _ | omega) (by rfl) (pa_cons (pv 0) pa_nil)) (pe_one (pe_cmpR (uInK K) (pe_ix (ix_seqK K) (pv 0) pe_int (fun _ _ => rfl)) (pe_gc C_LETTERS (by rfl)) (by rfl)))))),  fun ds d F0 H0 Q r rt => ?_⟩
  obtain ⟨t, rfl, hl, rfl⟩ := r
  refine s_ret (e_andV (e_call (ds := [.str t]) (by walk_at "e") ⟨t, rfl, hl, rfl⟩) fun h => ?_) rt
  have h1 : lenB t = true := by unfold valB at h; exact (Bool.and_eq_true_iff.mp h).1
  exact b_op (E.b (e_op (e_var rfl) e_int (ix_s hl (at_hdC (len_pos h1).1)))) (E.b e_str) in_sg rfl
end

/-! ### numbers, the four sorts -/
def DG0 : Str := "0123456789"
def len5 (t : Str) : Bool := decide ((1 : Int) ≤ t.length) && decide ((t.length : Int) ≤ 5)
def dgB (t : Str) : Bool := t.cps.toList.all (inC DG0)
def numB (t : Str) : Bool := (len5 t && dgB t) && (decide (t = "0") || !decide ((⟨#[hdC t]⟩ : Str) = "0"))
def fDg : PyData → Bool
  | .str s => inC DG0 (hdC s)
  | _ => true
theorem fDg_all (t : Str) : (sgD t).all fDg = dgB t := by
  unfold sgD
  rw [List.all_map]; rfl
def sortB (s t : Str) : Bool := if s = "name" then namB t else if s = "value" then decide (t = "-") || valB t else if s = "number" then numB t else decide (t = "in") || decide (t = "not")
section
variable {P : Program} {w : World} {K : PySem.W.Frag} {mg : Str → Option Value} {base : Heap} {f : Addr} {fd : FuncData} {Tb : List Addr} {k : Nat}
def R_num : List PyData → PyData → Prop := fun ds d => ∃ t : Str, ds = [.str t] ∧ t.length ≤ 100000 ∧ d = .bool (numB t)
theorem ok_num {c Pt : Addr} (Fn : Fun K "is_number" "is_number" s_is_number f fd) (hm : mg "is_number" = some (.ref f)) (hb : Binds K fd ["text"] []) (Z : Zb mg)
    (hns : PySem.W.nsIn K mainGlobals "is_number" = some (some (.ref f))) (ht : PySem.W.tabIn K "is_number" = some (c, Pt)) (TB_is_number : GxR.TabB base mg c Pt) (hP : Pt ∈ Tb)
    (C_MOST_DIGITS : ∃ u, mg "MOST_DIGITS" = some u ∧ RelV (.int 5) u) (C_DIGITS : ∃ u, mg "DIGITS" = some u ∧ RelV (.str DG0) u) :
    Df P w K mg base 2 "is_number" ["text"] (spD K Tb R_num) := by
  refine df_DT Fn hns ht sc_is_number hm hb (fun ds d h => by obtain ⟨_, rfl, _⟩ := h; rfl) fun A outer s H Ek hr => ⟨_, (pss_cons (ps_if (PW.pt (pw_or (pt_not (pt_chain op_le op_le pe_int (pe_callB (uLenK K) (by rfl) Z.len (by decide +kernel) (pa_cons (pv 0) pa_nil)) (pe_gc C_MOST_DIGITS (by rfl)))) (pw_or1 (pt_not (pt_truthK K (GA.pe_allG (own := [("character", 1)]) hr (by rfl) sc_is_number.nd TB_is_number rfl (by rfl) Z.all (by decide +kernel) (blkOk_by (own := [("character", 1)]) (N := N_is_number) (sc := defScope s_is_number) (by decide +kernel)) (GA.genOk_by (by decide +kernel)) (pi_any (pv 0)) (fun _ _ _ _ _ _ _ => (pg_name (i := 1) sc_is_number.nd rfl (by first | exact .inl rfl | exact .inr rfl))) (fun _ _ _ _ _ _ _ hr => (pe_cmpR (uInK K) (pv 1) (pe_gc C_DIGITS (by rfl)) (by rfl))) (fun _ => rfl)) (by intro _; rfl)))))) (pss_one (ps_ret pe_bl)) pss_nil)
      (pss_one (ps_ret (pe_or (pe_cmpR (uEqK K hr.units) (pv 0) pe_str (nomark _)) (pe_one (pe_cmpR (uNeK K hr.units) (pe_ix (ix_seqK K) (pv 0) pe_int (fun _ _ => rfl)) pe_str (nomark _))))))),  fun ds d F0 H0 Q r rt => ?_⟩
  obtain ⟨t, rfl, hl, rfl⟩ := r
  refine q_if (b := !(len5 t) || !(dgB t)) (t_or (t_not (t_test (e_chain (E.b e_int) (by walk_at "e") (fun _ => E.b e_int) le_i fun _ => le_i))) fun _ => t_not (t_tru (d := .bool (dgB t)) (E.b ?_) rfl)) (fun z => ?_) fun z => s_next (n_go ?_)
  · rw [← fDg_all, ← quant_all]
    refine e_quant (ix := [1]) hP fDg (fun y => [.fz (.str t), .fz y]) (it_as (e_var rfl)) (fun F1 d hd => g_name) (by decide) fun F1 d hd => ?_
    obtain ⟨c, _, rfl⟩ := List.mem_map.mp hd
    exact b_op (E.b (e_var rfl)) (E.b e_str) in_sg rfl
  · have e : numB t = false := by
      unfold numB
      cases h1 : len5 t <;> cases h2 : dgB t <;> rw [h1, h2] at z <;> first | rfl | cases z
    rw [e] at rt
    exact s_ret e_bl rt
  · have h12 : len5 t = true ∧ dgB t = true := by
      cases h1 : len5 t <;> cases h2 : dgB t <;> rw [h1, h2] at z <;> first | exact ⟨rfl, rfl⟩ | cases z
    have e : numB t = (decide (t = "0") || !decide ((⟨#[hdC t]⟩ : Str) = "0")) := by
      unfold numB
      rw [h12.1, h12.2]; rfl
    rw [e] at rt
    have h1 : 1 ≤ t.length := by
      have := h12.1
      unfold len5 at this
      have := of_decide_eq_true (Bool.and_eq_true_iff.mp this).1
      omega
    exact s_ret (e_orV (b_op (E.b (e_var rfl)) (E.b e_str) eq_s rfl) fun _ => b_op (E.b (e_op (e_var rfl) e_int (ix_s hl (at_hdC h1)))) (E.b e_str) ne_s rfl) rt
def R_srt : List PyData → PyData → Prop := fun ds d => ∃ s t : Str, ds = [.str s, .str t] ∧ t.length ≤ 100000 ∧ d = .bool (sortB s t)
theorem ok_srt (Fn : Fun K "is_of_sort" "is_of_sort" s_is_of_sort f fd) (hm : mg "is_of_sort" = some (.ref f)) (hb : Binds K fd ["sort", "text"] []) (Z : Zb mg) {U : Addr}
    (C_EMPTY_VALUE : ∃ u, mg "EMPTY_VALUE" = some u ∧ RelV (.str "-") u) (T_TESTS : TcOk K mg "TESTS" U ["in", "not"])
    (D_is_value : Df P w K mg base 2 "is_value" ["text"] (spD K Tb R_isv)) (D_is_name : Df P w K mg base 3 "is_name" ["text"] (spD K Tb R_isn)) (D_is_number : Df P w K mg base 2 "is_number" ["text"] (spD K Tb R_num)) :
    Df P w K mg base 4 "is_of_sort" ["sort", "text"] (spD K Tb R_srt) := by
  have C_TESTS := T_TESTS.c
  refine df_D Fn sc_is_of_sort hm hb (fun ds d h => by obtain ⟨_, _, rfl, _⟩ := h; rfl) fun cdv A outer s H Ek hr => ⟨_, (pss_cons (ps_if (pt_cmpR (uEqK K hr.units) (pv 0) pe_str (nomark _)) (pss_one (ps_ret (pe_df D_is_name hr (by first | decide | exact Nat.le_refl _ | omega) (by rfl) (pa_cons (pv 1) pa_nil)))) pss_nil)
      (pss_cons (ps_if (pt_cmpR (uEqK K hr.units) (pv 0) pe_str (nomark _)) (pss_one (ps_ret (pe_or (pe_cmpR (uEqK K hr.units) (pv 1) (pe_gc C_EMPTY_VALUE (by rfl)) (nomark _)) (pe_one (pe_df D_is_value hr (by first | decide | exact Nat.le_refl _ | omega) (by rfl) (pa_cons (pv 1) pa_nil)))))) pss_nil)
      (pss_cons (ps_if (pt_cmpR (uEqK K hr.units) (pv 0) pe_str (nomark _)) (pss_one (ps_ret (pe_df D_is_number hr (by first | decide | exact Nat.le_refl _ | omega) (by rfl) (pa_cons (pv 1) pa_nil)))) pss_nil)
      (pss_one (ps_ret (pe_cmpR (uInK K) (pv 1) (pe_gc C_TESTS (by rfl)) (by rfl))))))),  fun ds d F0 H0 Q r rt => ?_⟩
  obtain ⟨s, t, rfl, hl, rfl⟩ := r
  unfold sortB at rt
  refine q_if (b := decide (s = "name")) (t_test (b_op (E.b (e_var rfl)) (E.b e_str) eq_s rfl)) (fun z => ?_) fun z => s_next (n_go ?_)
  · rw [if_pos (of_decide_eq_true z)] at rt
    exact s_ret (e_call (ds := [.str t]) (a_cons (e_var rfl) a_nil) ⟨t, rfl, hl, rfl⟩) rt
  rw [if_neg (of_decide_eq_false z)] at rt
  refine q_if (b := decide (s = "value")) (t_test (b_op (E.b (e_var rfl)) (E.b e_str) eq_s rfl)) (fun z => ?_) fun z => s_next (n_go ?_)
  · rw [if_pos (of_decide_eq_true z)] at rt
    exact s_ret (e_orV (b_op (E.b (e_var rfl)) (E.b e_str) eq_s rfl) fun _ => e_call (ds := [.str t]) (a_cons (e_var rfl) a_nil) ⟨t, rfl, hl, rfl⟩) rt
  rw [if_neg (of_decide_eq_false z)] at rt
  refine q_if (b := decide (s = "number")) (t_test (b_op (E.b (e_var rfl)) (E.b e_str) eq_s rfl)) (fun z => ?_) fun z => s_next (n_go ?_)
  · rw [if_pos (of_decide_eq_true z)] at rt
    exact s_ret (e_call (ds := [.str t]) (a_cons (e_var rfl) a_nil) ⟨t, rfl, hl, rfl⟩) rt
  rw [if_neg (of_decide_eq_false z)] at rt
  refine s_ret (d := .bool (decide (t = "in") || decide (t = "not"))) ?_ rt
  have e : (decide (t = "in") || decide (t = "not")) = decide (t ∈ (["in", "not"] : List Str)) := by
    rw [Bool.eq_iff_iff]; simp
  rw [e, ← inD_str]
  exact b_op (E.b (e_var rfl)) (E.b (e_tc T_TESTS)) (in_t rfl (scal_strs _)) rfl
end

/-! ### sorts_for, check_words -/
abbrev Shp := List Str × Option Str
def TB76 : List (Str × Shp) := [("week", (["number"], none)), ("lookback", (["number"], none)), ("store", (["number", "number", "number", "number"], none)), ("pager", (["number", "number", "number"], none)), ("person", (["name", "number"], none)), ("schedule", (["name"], none)), ("policy", (["name"], none)), ("window", (["name"], none)), ("holdback", ([], none)), ("rules", (["name", "number", "number"], none)), ("layer", (["number", "number", "name"], some "name")), ("span", (["number", "number"], none)), ("standin", (["name", "number", "number"], none)), ("ring", (["name", "number"], none)), ("match", (["name", "test", "value"], some "value")), ("group", ([], some "name")), ("wait", (["number"], none)), ("interval", (["number"], none)), ("again", (["number"], none)), ("mute", ([], some "name")), ("by", (["name"], none)), ("source", (["name", "test", "value"], some "value")), ("target", (["name", "test", "value"], some "value")), ("equal", ([], some "name")), ("record", (["name"], none)), ("alert", (["name", "number", "number"], none)), ("label", (["name", "value"], none))]
def MS76 : List Str := ["weeks", "Week", "rout", "routes", "_", "expression", "in", "not", "-", "labels", "x"]
def osD : Option Str → PyData
  | none => .none
  | some s => .str s
def shD76 (e : Shp) : PyData := .tuple [.tuple (e.1.map .str), osD e.2]
def srtF (e : Shp) (n : Nat) : List Str := match e.2 with
  | none => e.1
  | some m => e.1 ++ List.replicate (n - e.1.length) m
theorem tb_len : ∀ q ∈ TB76, q.2.1.length ≤ 4 := by decide +kernel
theorem srt_len {e : Shp} (h : e.1.length ≤ 4) (n : Nat) : (srtF e n).length ≤ n + 4 := by
  unfold srtF
  split
  · omega
  · rw [List.length_append, List.length_replicate]; omega
def badF (p : Str × Str) : Bool := !sortB p.1 p.2
def finF (ss r : List Str) : Option Str := if ss.length = r.length then ((ss.zip r).find? badF).map (·.1) else some "fields"
def cwF (w : Str) (r : List Str) : Option Str :=
  if w = "expr" then (if r = [] then some "fields" else none)
  else if w = "route" then finF (if r = [] then [] else ["number"]) r
  else match TB76.lookup w with
    | none => some "unknown"
    | some e => finF (srtF e r.length) r
theorem tb_miss : ∀ k ∈ MS76, TB76.lookup k = none ∧ k ≠ "expr" ∧ k ≠ "route" := by decide +kernel
theorem tb_has : ∀ q ∈ TB76, TB76.lookup q.1 = some q.2 ∧ q.1 ≠ "expr" ∧ q.1 ≠ "route" := by decide +kernel
def okW (w : Str) : Prop := w = "expr" ∨ w = "route" ∨ (∃ e, (w, e) ∈ TB76) ∨ w ∈ MS76
abbrev T76 : List (Str × PyData) := TB76.map fun p => (p.1, shD76 p.2)
abbrev KdM (K : PySem.W.Frag) (mg : Str → Option Value) (w : World) (U : Addr) : Prop := mg "SHAPES" = some (.ref U) ∧ KdT K w U T76 MS76
def HasAll (K : PySem.W.Frag) (p : Addr) : List (Str × PyData) → Prop
  | [] => True
  | q :: r => (∃ u v, PySem.W.nsIn K p q.1 = some (some u) ∧ RelV v u ∧ ∀ F, Dp K F v q.2) ∧ HasAll K p r
theorem has_all {K : PySem.W.Frag} {p : Addr} : ∀ {l : List (Str × PyData)}, HasAll K p l → ∀ q ∈ l, ∃ u v, PySem.W.nsIn K p q.1 = some (some u) ∧ RelV v u ∧ ∀ F, Dp K F v q.2
  | [], _, q, h => by cases h
  | a :: l, h, q, hq => by
    rcases List.mem_cons.mp hq with e | hq
    · rw [e]; exact h.1
    · exact has_all h.2 q hq
def NonAll (K : PySem.W.Frag) (p : Addr) : List Str → Prop
  | [] => True
  | k :: r => PySem.W.nsIn K p k = some none ∧ NonAll K p r
theorem non_all {K : PySem.W.Frag} {p : Addr} : ∀ {l : List Str}, NonAll K p l → ∀ k ∈ l, PySem.W.nsIn K p k = some none
  | [], _, k, h => by cases h
  | a :: l, h, k, hk => by
    rcases List.mem_cons.mp hk with e | hk
    · rw [e]; exact h.1
    · exact non_all h.2 k hk
theorem sh_fact {K : PySem.W.Frag} {p A B : Addr} {k : Str} {ss : List Str} {mo : Option Str} {o o' : Option Addr} {m : Value} {n n' : Nat} {l l' : Array (Option Value)} {its : Array Value}
    (dv : PySem.W.nsIn K p k = some (some (.ref A))) (ta : K.lookup A = some ⟨.type "tuple", o, .seq #[.ref B, m] n, l⟩) (tb : K.lookup B = some ⟨.type "tuple", o', .seq its n', l'⟩)
    (sz : its.size ≤ sizeLine) (hv : Vals (ss.map V.str) its.toList) (mv : V) (hm : RelV mv m) (hd : ∀ F, Dp K F mv (osD mo)) : ∃ u v, PySem.W.nsIn K p k = some (some u) ∧ RelV v u ∧ ∀ F, Dp K F v (shD76 (ss, mo)) :=
  ⟨.ref A, .ref A, dv, rfl, fun F => .tup (xs := [.ref B, mv]) (.inr ⟨_, _, _, ta, rfl, rfl, (show 2 ≤ sizeLine by decide), .cons rfl (.cons hm .nil)⟩)
    (.cons (.tup (xs := ss.map V.str) (.inr ⟨_, _, _, tb, rfl, rfl, sz, hv⟩) (dps_strs ss)) (.cons (hd F) .nil))⟩
section
variable {P : Program} {w : World} {K : PySem.W.Frag} {mg : Str → Option Value} {base : Heap} {f : Addr} {fd : FuncData} {Tb : List Addr} {k : Nat}
def R_sf : List PyData → PyData → Prop := fun ds d => ∃ (x : Str) (e : Shp) (n : Nat), ds = [.str x, .int (n : Nat)] ∧ (x, e) ∈ TB76 ∧ n ≤ 1000 ∧ d = sL (srtF e n)
theorem ok_sf {U : Addr} (Fn : Fun K "sorts_for" "sorts_for" s_sorts_for f fd) (hm : mg "sorts_for" = some (.ref f)) (hb : Binds K fd ["word", "many"] []) (Z : Zb mg)
    (T_SHAPES : KdM K mg w U) :
    Df P w K mg base 1 "sorts_for" ["word", "many"] (spD K Tb R_sf) := by
  have C_SHAPES : ∃ u, mg "SHAPES" = some u ∧ RelV (.ref U) u := ⟨_, T_SHAPES.1, rfl⟩
  refine df_D Fn sc_sorts_for hm hb (fun ds d h => by obtain ⟨_, _, _, rfl, _⟩ := h; rfl) fun cdv A outer s H Ek hr => ⟨_, (pss_cons (ps_asg (pe_kix K w (pe_gc C_SHAPES (by rfl)) (pv 0) (fun _ _ => rfl)) (pg_tupK (n := 2) K rfl (pgs_cons (pg_name (i := 2) sc_sorts_for.nd rfl (by first | exact .inl rfl | exact .inr rfl)) (pgs_cons (pg_name (i := 3) sc_sorts_for.nd rfl (by first | exact .inl rfl | exact .inr rfl)) pgs_nil))))
      (pss_cons (ps_if (pt_cmpR uIsN (pv 3) pe_non (nomark _)) (pss_one (ps_ret (pe_callTy (uListK K (by rfl)) (by rfl) Z.list (by decide +kernel) (pa_cons (pv 2) pa_nil)))) pss_nil)
      (pss_one (ps_ret (pe_op (uAddK K) (pe_callTy (uListK K (by rfl)) (by rfl) Z.list (by decide +kernel) (pa_cons (pv 2) pa_nil)) (pe_op op_rep (pe_lst (pa_cons (pv 3) pa_nil)) (pe_op op_sub (pv 1) (pe_callB (uLenK K) (by rfl) Z.len (by decide +kernel) (pa_cons (pv 2) pa_nil))))))))),  fun ds d F0 H0 Q r rt => ?_⟩
  obtain ⟨x, e, n, rfl, hx, hn, rfl⟩ := r
  have el : e.1.length ≤ 4 := tb_len _ hx
  obtain ⟨fx, mo⟩ := e
  have el : fx.length ≤ 4 := el
  refine q_asgT (d := shD76 (fx, mo)) (e_kix T_SHAPES.2 (e_var rfl) (List.mem_map.mpr ⟨(x, (fx, mo)), hx, rfl⟩)) (g_tup (gs_cons g_name (gs_cons g_name gs_nil)) rfl) ?_
  show S _ _ _ [.fz (.str x), .fz (.int (n : Nat)), .fz (.tuple (fx.map .str)), .fz (osD mo)]
  cases mo with
  | none =>
    refine q_if (b := isND (osD none)) (t_test (b_op (E.b (e_var rfl)) (E.b e_non) is_n rfl)) (fun _ => ?_) fun z => by cases z
    exact s_ret (EL.e (lw_tup (e_var rfl))) rt
  | some m =>
    refine q_if (b := isND (osD (some m))) (t_test (b_op (E.b (e_var rfl)) (E.b e_non) is_n rfl)) (fun z => by cases z) fun _ => s_next (n_go ?_)
    have lf : (((fx.map PyData.str).length : Nat) : Int) = fx.length := by rw [List.length_map]
    have e1 : ((n : Int) - (fx.length : Int)).toNat = n - fx.length := by omega
    have rt : Rt ⟨K, Tb, F0, H0, F0⟩ Q (.list (fx.map .str ++ List.replicate ((n : Int) - ((fx.map PyData.str).length : Int)).toNat (.str m))) := by
      rw [lf, e1, ← List.map_replicate, ← List.map_append]
      exact rt
    refine s_ret (EL.e (el_op (EL.e (lw_tup (e_var rfl))) (EL.e (el_rep (el_lst (ds := [.str m]) (a_cons (e_var rfl) a_nil) (Nat.le_of_ble_eq_true rfl)) (e_op (e_var rfl) (b_cb (ab_cons (E.b (e_var rfl)) ab_nil) len_t rfl) sub_i) (by rw [lf]; omega) (by rw [lf]; omega))) (add_l ?_))) rt
    rw [lf, e1, List.length_map, List.length_replicate]
    omega
def R_cw : List PyData → PyData → Prop := fun ds d => ∃ (x : Str) (r : List Str), ds = [sL (x :: r)] ∧ okW x ∧ r.length ≤ 1000 ∧ (∀ t ∈ r, t.length ≤ 100000) ∧ d = osD (cwF x r)
theorem zp_map (ss r : List Str) : zpD (ss.map .str) (r.map .str) = (ss.zip r).map fun p => .tuple [.str p.1, .str p.2] := by
  unfold zpD
  rw [List.zip_map, List.map_map]; rfl
theorem ok_cw {U : Addr} (Fn : Fun K "check_words" "check_words" s_check_words f fd) (hm : mg "check_words" = some (.ref f)) (hb : Binds K fd ["words"] []) (Z : Zb mg)
    (T_SHAPES : KdM K mg w U)
    (D_sorts_for : Df P w K mg base 1 "sorts_for" ["word", "many"] (spD K Tb R_sf)) (D_is_of_sort : Df P w K mg base 4 "is_of_sort" ["sort", "text"] (spD K Tb R_srt)) :
    Df P w K mg base 5 "check_words" ["words"] (spD K Tb R_cw) := by
  have C_SHAPES : ∃ u, mg "SHAPES" = some u ∧ RelV (.ref U) u := ⟨_, T_SHAPES.1, rfl⟩
  refine df_D Fn sc_check_words hm hb (fun ds d h => by obtain ⟨_, _, rfl, _⟩ := h; rfl) fun cdv A outer s H Ek hr => ⟨_, (pss_cons (ps_par (i := 1) (j := 2) rfl sc_check_words.nd rfl rfl (by decide) rfl rfl (pa_cons (pe_ix (ix_seqK K) (pv 0) pe_int (fun _ _ => rfl)) (pa_cons (pe_slice (uSlK K) (pv 0) (po_some pe_int) po_none) pa_nil)) rfl)
      (pss_cons (ps_if (pt_cmpR (uEqK K hr.units) (pv 1) pe_str (nomark _)) (pss_one (ps_ret (pe_ifExp (pt_truthK K (pv 2) (by intro _; rfl)) pe_non pe_str))) pss_nil)
      (Evl.pss_cut (ps_if (pt_cmpR (uEqK K hr.units) (pv 1) pe_str (nomark _)) (pss_one (ps_set (i := 3) sc_check_words.nd rfl (by first | exact .inl rfl | exact .inr rfl) (pe_ifExp (pt_truthK K (pv 2) (by intro _; rfl)) (pe_lst (pa_cons pe_str pa_nil)) (pe_lst pa_nil)))) (pss_one (ps_if (pt_cmpR (uKIn K w) (pv 1) (pe_gc C_SHAPES (by rfl)) (by rfl)) (pss_one (ps_set (i := 3) sc_check_words.nd rfl (by first | exact .inl rfl | exact .inr rfl) (pe_df D_sorts_for hr (by first | decide | exact Nat.le_refl _ | omega) (by rfl) (pa_cons (pv 1) (pa_cons (pe_callB (uLenK K) (by rfl) Z.len (by decide +kernel) (pa_cons (pv 2) pa_nil)) pa_nil))))) (pss_one (ps_ret pe_str)))))
      (pss_cons (ps_if (pt_cmpR (uNeK K hr.units) (pe_callB (uLenK K) (by rfl) Z.len (by decide +kernel) (pa_cons (pv 3) pa_nil)) (pe_callB (uLenK K) (by rfl) Z.len (by decide +kernel) (pa_cons (pv 2) pa_nil)) (nomark _)) (pss_one (ps_ret pe_str)) pss_nil)
      (pss_cons (ps_for PassesOwn.never rfl (pi_zip (by rfl) Z.zip (pa_cons (pv 3) (pa_cons (pv 2) pa_nil))) (pg_tupK (n := 2) K rfl (pgs_cons (pg_name (i := 4) sc_check_words.nd rfl (by first | exact .inl rfl | exact .inr rfl)) (pgs_cons (pg_name (i := 5) sc_check_words.nd rfl (by first | exact .inl rfl | exact .inr rfl)) pgs_nil))) (pss_one (ps_if (pt_not (pt_truthK K (pe_df D_is_of_sort hr (by first | decide | exact Nat.le_refl _ | omega) (by rfl) (pa_cons (pv 4) (pa_cons (pv 5) pa_nil))) (by intro _; rfl))) (pss_one (ps_ret (pv 4))) pss_nil)))
      (pss_one (ps_ret pe_non))))))),  fun ds d F0 H0 Q r rt => ?_⟩
  obtain ⟨x, r, rfl, okx, hr1, hrl, rfl⟩ := r
  have a0 : atI ((x :: r).map PyData.str) 0 = some (.str x) := by rw [at_str (by decide) (by simp)]; rfl
  have ec : DW.cutD ((x :: r).map PyData.str) (some 1) none = r.map .str := by
    rw [cut_map]
    congr 1
    show ((x :: r).drop (HT.sIx (r.length + 1) 0 (some ((1 : Nat) : Int)))).take (HT.sIx (r.length + 1) (r.length + 1) none - HT.sIx (r.length + 1) 0 (some ((1 : Nat) : Int))) = r
    rw [HT.sIx_nat, show HT.sIx (r.length + 1) (r.length + 1) none = r.length + 1 from rfl, Nat.min_eq_left (by omega)]
    show r.take (r.length + 1 - 1) = r
    rw [Nat.add_sub_cancel, List.take_length]
  refine q_par (x := .str x) (y := sL r) (a_cons (e_op (e_var rfl) e_int (ix_l a0)) (a_cons (by show E _ _ _ (.list (r.map PyData.str)); rw [← ec]; exact EL.e (el_sl (lo := some 1) (hi := none) (e_var rfl) (o_some e_int) o_none)) a_nil)) ?_
  show S _ _ _ [.fz (sL (x :: r)), .fz (.str x), .fz (sL r), .un, .un, .un]
  have nr : (!(r.map PyData.str).isEmpty) = decide (r ≠ []) := by cases r <;> rfl
  unfold cwF at rt
  refine q_if (b := decide (x = "expr")) (t_test (b_op (E.b (e_var rfl)) (E.b e_str) eq_s rfl)) (fun z => ?_) fun z => s_next (n_go ?_)
  · rw [if_pos (of_decide_eq_true z)] at rt
    cases r with
    | nil => exact s_ret (e_if (b := false) (t_tru (d := sL []) (E.b (e_var rfl)) rfl) (fun z => by cases z) fun _ => e_str) rt
    | cons a r => exact s_ret (e_if (b := true) (t_tru (d := sL (a :: r)) (E.b (e_var rfl)) rfl) (fun _ => e_non) fun z => by cases z) rt
  have z1 := of_decide_eq_false z
  rw [if_neg z1] at rt
  refine s_cutA (α := List Str) (fun ss => [.fz (sL (x :: r)), .fz (.str x), .fz (sL r), .fz (sL ss), .un, .un]) (fun ss => ss.length ≤ 2000 ∧ Rt ⟨K, Tb, F0, H0, F0⟩ Q (osD (finF ss r))) ?_ fun ss hss => ?_
  · refine s_if (b := decide (x = "route")) (t_test (b_op (E.b (e_var rfl)) (E.b e_str) eq_s rfl)) (fun z => ?_) fun z => ?_
    · rw [if_pos (of_decide_eq_true z)] at rt
      cases r with
      | nil => exact s_asg (d := sL []) (e_if (b := false) (t_tru (d := sL []) (E.b (e_var rfl)) rfl) (fun z => by cases z) fun _ => EL.e (el_lst a_nil (by decide))) (n_end [] ⟨by decide, rt⟩ (by walk_at "w"))
      | cons a r => exact s_asg (d := sL ["number"]) (e_if (b := true) (t_tru (d := sL (a :: r)) (E.b (e_var rfl)) rfl) (fun _ => EL.e (el_lst (ds := [.str "number"]) (a_cons e_str a_nil) (by decide))) fun z => by cases z) (n_end ["number"] ⟨by decide, rt⟩ (by walk_at "w"))
    · have z2 := of_decide_eq_false z
      rw [if_neg z2] at rt
      rcases okx with h | h | ⟨e, he⟩ | hms
      · exact absurd h z1
      · exact absurd h z2
      · rw [(tb_has _ he).1] at rt
        have lr : (((r.map PyData.str).length : Nat) : Int) = r.length := by rw [List.length_map]
        refine s_if (b := true) (t_test (b_kin T_SHAPES.2 (E.b (e_var rfl)) (List.mem_map.mpr ⟨(x, e), he, rfl⟩))) (fun _ => ?_) fun z => by cases z
        exact s_asg (d := sL (srtF e r.length)) (e_call (ds := [.str x, .int (r.length : Nat)]) (a_cons (e_var rfl) (a_cons (by rw [← lr]; exact b_cb (ab_cons (E.b (e_var rfl)) ab_nil) len_l rfl) a_nil)) ⟨x, e, r.length, rfl, he, hr1, rfl⟩) (n_end (srtF e r.length) ⟨Nat.le_trans (srt_len (tb_len _ he) _) (by omega), rt⟩ (by walk_at "w"))
      · rw [(tb_miss _ hms).1] at rt
        refine s_if (b := false) (t_test (b_knot T_SHAPES.2 (E.b (e_var rfl)) hms)) (fun z => by cases z) fun _ => ?_
        exact s_ret e_str rt
  · obtain ⟨hs2, rt⟩ := hss
    unfold finF at rt
    have l1 : (((ss.map PyData.str).length : Nat) : Int) = ss.length := by rw [List.length_map]
    have l2 : (((r.map PyData.str).length : Nat) : Int) = r.length := by rw [List.length_map]
    refine q_if (b := !decide (((ss.length : Nat) : Int) = ((r.length : Nat) : Int))) (t_test (b_op (by rw [← l1]; exact E.b (b_cb (ab_cons (E.b (e_var rfl)) ab_nil) len_l rfl)) (by rw [← l2]; exact E.b (b_cb (ab_cons (E.b (e_var rfl)) ab_nil) len_l rfl)) ne_i rfl)) (fun z => ?_) fun z => s_next (n_go ?_)
    · rw [if_neg (fun e => by rw [e, decide_eq_true rfl] at z; cases z)] at rt
      exact s_ret e_str rt
    · have hll : ss.length = r.length := by
        by_cases h : ((ss.length : Nat) : Int) = ((r.length : Nat) : Int)
        · omega
        · rw [decide_eq_false h] at z; cases z
      rw [if_pos hll] at rt
      refine q_for (α := Unit) (fun _ _ => [.fz (sL (x :: r)), .fz (.str x), .fz (sL r), .fz (sL ss), .un, .un]) (fun i _ => ((ss.zip r).drop i).find? badF = (ss.zip r).find? badF) (it_zip (a_cons (e_var rfl) (a_cons (e_var rfl) a_nil))) () rfl (Wk.refl _) (fun F1 i _ d hd hp => ?_) fun _ hp => ?_
      · rw [zp_map] at hd
        obtain ⟨p, hpi, rfl⟩ := map_get hd
        have hp : ((ss.zip r).drop i).find? badF = (ss.zip r).find? badF := hp
        rw [drop_get hpi, List.find?_cons] at hp
        refine ⟨_, _, g_tup (gs_cons g_name (gs_cons g_name gs_nil)) rfl, ?_⟩
        show S _ _ _ [.fz (sL (x :: r)), .fz (.str x), .fz (sL r), .fz (sL ss), .fz (.str p.1), .fz (.str p.2)]
        have hm2 : p.2 ∈ r := (List.of_mem_zip (List.mem_of_getElem? hpi)).2
        refine s_if (b := badF p) (t_not (t_tru (d := .bool (sortB p.1 p.2)) (E.b (e_call (ds := [.str p.1, .str p.2]) (a_cons (e_var rfl) (a_cons (e_var rfl) a_nil)) ⟨p.1, p.2, rfl, hrl _ hm2, rfl⟩)) rfl)) (fun z => ?_) fun z => ?_
        · rw [z] at hp
          rw [← hp] at rt
          exact s_ret (e_var rfl) rt
        · rw [z] at hp
          exact s_next (n_end () hp (by walk_at "w"))
      · have hp : ((ss.zip r).drop (zpD (ss.map .str) (r.map .str)).length).find? badF = (ss.zip r).find? badF := hp
        rw [zp_map, List.length_map, List.drop_length] at hp
        rw [← hp] at rt
        exact s_ret e_non rt
end

/-! ### the law's shapes, the law's own check of a word -/
def LS76 : List (Str × Str) := [("week", "n"), ("lookback", "n"), ("store", "nnnn"), ("pager", "nnn"), ("person", "an"), ("schedule", "a"), ("policy", "a"), ("window", "a"), ("holdback", ""), ("rules", "ann"), ("route", ""), ("layer", "nna"), ("span", "nn"), ("standin", "ann"), ("ring", "an"), ("match", "atv"), ("group", ""), ("wait", "n"), ("interval", "n"), ("again", "n"), ("mute", ""), ("by", "a"), ("source", "atv"), ("target", "atv"), ("equal", ""), ("record", "a"), ("alert", "ann"), ("label", "av"), ("expr", "")]
def lshF (x : Str) : Option Str := LS76.lookup x
abbrev txE (p : Str × Str) : Str × PyData := (p.1, .str p.2)
theorem putD_new {acc : List (Str × PyData)} {x : Str} {d : PyData} (h : x ∉ acc.map (·.1)) : putD acc x d = acc ++ [(x, d)] := by
  unfold putD
  rw [if_neg]
  rw [List.any_eq_true]
  rintro ⟨p, hp, e⟩
  exact h (List.mem_map.mpr ⟨p, hp, of_decide_eq_true e⟩)
theorem putAll_nd : ∀ (q acc : List (Str × PyData)), ((acc ++ q).map (·.1)).Nodup → putAll acc q = acc ++ q
  | [], acc, _ => (List.append_nil _).symm
  | p :: q, acc, h => by
    have h1 : p.1 ∉ acc.map (·.1) := fun hm => by
      rw [List.map_append, List.nodup_append] at h
      exact h.2.2 _ hm _ (by rw [List.map_cons]; exact List.mem_cons_self) rfl
    show putAll (putD acc p.1 p.2) q = _
    rw [putD_new h1, putAll_nd q _ (by rw [List.append_assoc]; exact h), List.append_assoc]
    rfl
theorem getK_tx (x : Str) : ∀ L : List (Str × Str), getK (L.map txE) x = (L.lookup x).map .str
  | [] => rfl
  | p :: L => by
    have ih := getK_tx x L
    unfold getK at ih ⊢
    rw [List.map_cons, List.find?_cons, List.lookup_cons]
    by_cases h : p.1 = x
    · subst h
      rw [show decide ((txE p).1 = p.1) = true from decide_eq_true rfl, beq_self_eq_true]; rfl
    · rw [show decide ((txE p).1 = x) = false from decide_eq_false h, show (x == p.1) = false from beq_eq_false_iff_ne.mpr (Ne.symm h)]
      exact ih
theorem ls_nd : (LS76.map (·.1)).Nodup := by decide +kernel
theorem ls_put : putAll (putAll [] ((LS76.take 17).map txE)) (putAll [] ((LS76.drop 17).map txE)) = LS76.map txE := by
  have e : LS76 = LS76.take 17 ++ LS76.drop 17 := (List.take_append_drop 17 _).symm
  have k : ∀ L : List (Str × Str), (L.map txE).map (·.1) = L.map (·.1) := fun L => by rw [List.map_map]; rfl
  have n : ((LS76.take 17).map txE ++ (LS76.drop 17).map txE).map (·.1) = LS76.map (·.1) := by rw [← List.map_append, ← e, k]
  have nd := ls_nd
  rw [← n] at nd
  have nd2 := nd
  rw [List.map_append, List.nodup_append] at nd2
  rw [putAll_nd _ [] (by rw [List.nil_append]; exact nd2.1), putAll_nd _ [] (by rw [List.nil_append]; exact nd2.2.1), List.nil_append, List.nil_append, putAll_nd _ _ nd, ← List.map_append, ← e]
section
variable {g : Gd} {G : List Sl} {te : TE} {tw : TS} {kvs : List (Str × PyData)} {i : Nat} {D : Ends}
theorem s_asgD (h : EOD g te G kvs) (k : N g D.nx (G.set i (.od kvs))) : S g (tAsg te (gName i)) D G := fun σ F H hh => h σ F H hh _ fun p vs F1 H1 s1 h0 hF hH d1 =>
  k _ F1 H1 ((hh.mono s1).set (s := .od kvs) ⟨p, vs, rfl, old_free hh.st h0, hF, hH, d1⟩ fun _ j t _ e1 m e2 => new_ok hh h0 j ⟨t, e1, m⟩ e2)
theorem q_asgD (h : EOD g te G kvs) (k : S g tw D (G.set i (.od kvs))) : S g (tSeq (tAsg te (gName i)) tw) D G := s_asgD (D := { D with nx := tw D }) h k
end
def furF (x : Str) : Str := if (decide (x = "match") || (decide (x = "source") || decide (x = "target"))) = true then "v" else if (decide (x = "layer") || (decide (x = "group") || (decide (x = "mute") || decide (x = "equal")))) = true then "a" else ""
section
variable {P : Program} {w : World} {K : PySem.W.Frag} {mg : Str → Option Value} {base : Heap} {f : Addr} {fd : FuncData} {Tb : List Addr} {k : Nat}
def R_shp : List PyData → PyData → Prop := fun ds d => ∃ x : Str, ds = [.str x] ∧ d = osD (lshF x)
theorem ok_shp (Fn : Fun K "_law_shape" "_law_shape" s_l_law_shape f fd) (hm : mg "_law_shape" = some (.ref f)) (hb : Binds K fd ["word"] []) (Z : Zb mg) :
    Df P w K mg base 1 "_law_shape" ["word"] (spD K Tb R_shp) := by
  refine df_D Fn sc_l_law_shape hm hb (fun ds d h => by obtain ⟨_, rfl, _⟩ := h; rfl) fun cdv A outer s H Ek hr => ⟨_, (pss_cons (ps_set (i := 1) sc_l_law_shape.nd rfl (by first | exact .inl rfl | exact .inr rfl) (pe_dispL (plong_cons pe_str pe_str (plong_cons pe_str pe_str (plong_cons pe_str pe_str (plong_cons pe_str pe_str (plong_cons pe_str pe_str (plong_cons pe_str pe_str (plong_cons pe_str pe_str (plong_cons pe_str pe_str (plong_cons pe_str pe_str (plong_cons pe_str pe_str (plong_cons pe_str pe_str (plong_cons pe_str pe_str (plong_cons pe_str pe_str (plong_cons pe_str pe_str (plong_cons pe_str pe_str (plong_cons pe_str pe_str (plong_cons pe_str pe_str plong_nil))))))))))))))))) (pps_cons pe_str pe_str (pps_cons pe_str pe_str (pps_cons pe_str pe_str (pps_cons pe_str pe_str (pps_cons pe_str pe_str (pps_cons pe_str pe_str (pps_cons pe_str pe_str (pps_cons pe_str pe_str (pps_cons pe_str pe_str (pps_cons pe_str pe_str (pps_cons pe_str pe_str (pps_cons pe_str pe_str pps_nil)))))))))))) (by rfl) rfl (by decide) (by decide)))
      (pss_one (ps_ret (pe_dget1 (hu_of hr) (pv 1) (pv 0) (M1.mk (by rfl) (by rfl) (by rfl) (by rfl)))))), fun ds d F0 H0 Q r rt => ?_⟩
  obtain ⟨x, rfl, rfl⟩ := r
  refine q_asgD (kvs := LS76.map txE) (by rw [← ls_put]; exact eod_dispL ⟨e_str, e_str, e_str, e_str, e_str, e_str, e_str, e_str, e_str, e_str, e_str, e_str, e_str, e_str, e_str, e_str, e_str, e_str, e_str, e_str, e_str, e_str, e_str, e_str, e_str, e_str, e_str, e_str, e_str, e_str, e_str, e_str, e_str, e_str, trivial⟩ ⟨e_str, e_str, e_str, e_str, e_str, e_str, e_str, e_str, e_str, e_str, e_str, e_str, e_str, e_str, e_str, e_str, e_str, e_str, e_str, e_str, e_str, e_str, e_str, e_str, trivial⟩ (by decide) (by decide) (by decide)) ?_
  have e : osD (lshF x) = (getK (LS76.map txE) x).getD .none := by
    rw [getK_tx]
    unfold lshF
    cases LS76.lookup x <;> rfl
  rw [e] at rt
  exact s_ret (e_dget1 rfl (e_var rfl)) rt
def R_fur : List PyData → PyData → Prop := fun ds d => ∃ x : Str, ds = [.str x] ∧ d = .str (furF x)
theorem ok_fur (Fn : Fun K "_law_further" "_law_further" s_l_law_further f fd) (hm : mg "_law_further" = some (.ref f)) (hb : Binds K fd ["word"] []) (Z : Zb mg) :
    Df P w K mg base 1 "_law_further" ["word"] (spD K Tb R_fur) := by
  refine df_D Fn sc_l_law_further hm hb (fun ds d h => by obtain ⟨_, rfl, _⟩ := h; rfl) fun cdv A outer s H Ek hr => ⟨_, (pss_cons (ps_if (PW.pt (pw_or (pt_cmpR (uEqK K hr.units) (pv 0) pe_str (nomark _)) (pw_or (pt_cmpR (uEqK K hr.units) (pv 0) pe_str (nomark _)) (pw_or1 (pt_cmpR (uEqK K hr.units) (pv 0) pe_str (nomark _)))))) (pss_one (ps_ret pe_str)) pss_nil)
      (pss_cons (ps_if (PW.pt (pw_or (pt_cmpR (uEqK K hr.units) (pv 0) pe_str (nomark _)) (pw_or (pt_cmpR (uEqK K hr.units) (pv 0) pe_str (nomark _)) (pw_or (pt_cmpR (uEqK K hr.units) (pv 0) pe_str (nomark _)) (pw_or1 (pt_cmpR (uEqK K hr.units) (pv 0) pe_str (nomark _))))))) (pss_one (ps_ret pe_str)) pss_nil)
      (pss_one (ps_ret pe_str)))),  fun ds d F0 H0 Q r rt => ?_⟩
  obtain ⟨x, rfl, rfl⟩ := r
  unfold furF at rt
  refine q_if (b := decide (x = "match") || (decide (x = "source") || decide (x = "target"))) (t_or (t_test (b_op (E.b (e_var rfl)) (E.b e_str) eq_s rfl)) fun _ => t_or (t_test (b_op (E.b (e_var rfl)) (E.b e_str) eq_s rfl)) fun _ => t_test (b_op (E.b (e_var rfl)) (E.b e_str) eq_s rfl)) (fun z => ?_) fun z => s_next (n_go ?_)
  · rw [if_pos z] at rt
    exact s_ret e_str rt
  rw [if_neg (by rw [z]; decide)] at rt
  refine q_if (b := decide (x = "layer") || (decide (x = "group") || (decide (x = "mute") || decide (x = "equal")))) (t_or (t_test (b_op (E.b (e_var rfl)) (E.b e_str) eq_s rfl)) fun _ => t_or (t_test (b_op (E.b (e_var rfl)) (E.b e_str) eq_s rfl)) fun _ => t_or (t_test (b_op (E.b (e_var rfl)) (E.b e_str) eq_s rfl)) fun _ => t_test (b_op (E.b (e_var rfl)) (E.b e_str) eq_s rfl)) (fun z => ?_) fun z => s_next (n_go ?_)
  · rw [if_pos z] at rt
    exact s_ret e_str rt
  · rw [if_neg (by rw [z]; decide)] at rt
    exact s_ret e_str rt
def conB (t S : Str) : Bool := t.cps.toList.all (inC S)
def R_con : List PyData → PyData → Prop := fun ds d => ∃ t S : Str, ds = [.str t, .str S] ∧ d = .bool (conB t S)
theorem ok_con (Fn : Fun K "_law_consists" "_law_consists" s_l_law_consists f fd) (hm : mg "_law_consists" = some (.ref f)) (hb : Binds K fd ["text", "chars"] []) (Z : Zb mg) :
    Df P w K mg base 1 "_law_consists" ["text", "chars"] (spD K Tb R_con) := by
  refine df_D Fn sc_l_law_consists hm hb (fun ds d h => by obtain ⟨_, _, rfl, _⟩ := h; rfl) fun cdv A outer s H Ek hr => ⟨_, (pss_cons (ps_for PassesOwn.never rfl (pi_any (pv 0)) (pg_name (i := 2) sc_l_law_consists.nd rfl (by first | exact .inl rfl | exact .inr rfl)) (pss_one (ps_if (pt_cmpR (uNiK K) (pv 2) (pv 1) (by rfl)) (pss_one (ps_ret pe_bl)) pss_nil)))
      (pss_one (ps_ret pe_bl))),  fun ds d F0 H0 Q r rt => ?_⟩
  obtain ⟨t, Sg, rfl, rfl⟩ := r
  have hl : (sgD t).length = t.cps.toList.length := by unfold sgD; rw [List.length_map]
  refine q_for (α := Unit) (ds := sgD t) (fun _ _ => [.fz (.str t), .fz (.str Sg), .un]) (fun i _ => ((t.cps.toList).drop i).all (inC Sg) = conB t Sg) (it_as (e_var rfl)) () rfl (Wk.refl _) (fun F1 i _ d hd hp => ?_) fun _ hp => ?_
  · unfold sgD at hd
    obtain ⟨c, hc, rfl⟩ := map_get hd
    have hp : ((t.cps.toList).drop i).all (inC Sg) = conB t Sg := hp
    rw [drop_get hc, List.all_cons] at hp
    refine ⟨_, _, g_name, ?_⟩
    show S _ _ _ [.fz (.str t), .fz (.str Sg), .fz (.str ⟨#[c]⟩)]
    refine s_if (b := !inC Sg c) (t_test (b_op (E.b (e_var rfl)) (E.b (e_var rfl)) ni_sg rfl)) (fun z => ?_) fun z => ?_
    · have z : inC Sg c = false := by cases h : inC Sg c <;> rw [h] at z <;> first | rfl | cases z
      rw [z, Bool.false_and] at hp
      rw [← hp] at rt
      exact s_ret e_bl rt
    · have z : inC Sg c = true := by cases h : inC Sg c <;> rw [h] at z <;> first | rfl | cases z
      rw [z, Bool.true_and] at hp
      exact s_next (n_end () hp (by walk_at "w"))
  · have hp : ((t.cps.toList).drop (sgD t).length).all (inC Sg) = conB t Sg := hp
    rw [hl, List.drop_length] at hp
    rw [← hp] at rt
    exact s_ret e_bl rt
end

/-! ### the law's check of one word -/
def KD : List (Str × Str) := [("n", "number"), ("t", "test"), ("a", "name"), ("v", "value")]
theorem kd_cases {x y : Str} (h : (x, y) ∈ KD) : (x = "n" ∧ y = "number") ∨ (x = "t" ∧ y = "test") ∨ (x = "a" ∧ y = "name") ∨ (x = "v" ∧ y = "value") := by
  rcases List.mem_cons.mp h with h | h
  · cases h; exact .inl ⟨rfl, rfl⟩
  rcases List.mem_cons.mp h with h | h
  · cases h; exact .inr (.inl ⟨rfl, rfl⟩)
  rcases List.mem_cons.mp h with h | h
  · cases h; exact .inr (.inr (.inl ⟨rfl, rfl⟩))
  rcases List.mem_cons.mp h with h | h
  · cases h; exact .inr (.inr (.inr ⟨rfl, rfl⟩))
  · cases h
def CH2 : Str := LE ++ "0123456789_"
theorem ch2_eq (c : Nat) : inC CH2 c = inC CH c := by
  have e : CH2.cps.toList.Perm CH.cps.toList := List.isPerm_iff.mp (by decide +kernel)
  unfold inC
  rw [Bool.eq_iff_iff, decide_eq_true_iff, decide_eq_true_iff, e.mem_iff]
theorem con_ch2 (t : Str) : conB t CH2 = t.cps.toList.all (inC CH) := by
  unfold conB
  congr 1
  funext c
  exact ch2_eq c
def plnW (t : Str) : Bool := conB t CH2 && decide ((t.length : Int) ≤ 20)
theorem pln_val {t : Str} (h : 1 ≤ t.length) : plnW t = valB t := by
  unfold plnW valB lenB
  rw [con_ch2, decide_eq_true (show (1 : Int) ≤ t.length by omega), Bool.true_and, Bool.and_comm]
theorem num_eq {t : Str} (h : 1 ≤ t.length) : numB t = (conB t DG0 && (decide ((t.length : Int) ≤ 5) && (decide (t = "0") || !decide ((⟨#[hdC t]⟩ : Str) = "0")))) := by
  unfold numB len5 dgB conB
  rw [decide_eq_true (show (1 : Int) ≤ t.length by omega), Bool.true_and, Bool.and_comm (decide _) (List.all _ _), Bool.and_assoc]
theorem srt_num (t : Str) : sortB "number" t = numB t := by
  unfold sortB
  rw [if_neg (by decide), if_neg (by decide), if_pos rfl]
theorem srt_test (t : Str) : sortB "test" t = (decide (t = "in") || decide (t = "not")) := by
  unfold sortB
  rw [if_neg (by decide), if_neg (by decide), if_neg (by decide)]
theorem srt_name (t : Str) : sortB "name" t = namB t := by
  unfold sortB
  rw [if_pos rfl]
theorem srt_val (t : Str) : sortB "value" t = (valB t || decide (t = "-")) := by
  unfold sortB
  rw [if_neg (by decide), if_pos rfl, Bool.or_comm]
section
variable {P : Program} {w : World} {K : PySem.W.Frag} {mg : Str → Option Value} {base : Heap} {f : Addr} {fd : FuncData} {Tb : List Addr} {k : Nat}
def R_rgt : List PyData → PyData → Prop := fun ds d => ∃ x y t : Str, ds = [.str x, .str t] ∧ (x, y) ∈ KD ∧ 1 ≤ t.length ∧ t.length ≤ 5000 ∧ d = .bool (sortB y t)
theorem ok_rgt (Fn : Fun K "_law_right" "_law_right" s_l_law_right f fd) (hm : mg "_law_right" = some (.ref f)) (hb : Binds K fd ["kind", "word"] []) (Z : Zb mg)
    (D_l_law_consists : Df P w K mg base 1 "_law_consists" ["text", "chars"] (spD K Tb R_con)) :
    Df P w K mg base 2 "_law_right" ["kind", "word"] (spD K Tb R_rgt) := by
  refine df_D Fn sc_l_law_right hm hb (fun ds d h => by obtain ⟨_, _, _, rfl, _⟩ := h; rfl) fun cdv A outer s H Ek hr => ⟨_, (pss_cons (ps_if (pt_cmpR (uEqK K hr.units) (pv 0) pe_str (nomark _)) (pss_one (ps_ret (pe_and (pe_df D_l_law_consists hr (by first | decide | exact Nat.le_refl _ | omega) (by rfl) (pa_cons (pv 1) (pa_cons pe_str pa_nil))) (pe_and (pe_cmpR op_le (pe_callB (uLenK K) (by rfl) Z.len (by decide +kernel) (pa_cons (pv 1) pa_nil)) pe_int (nomark _)) (pe_one (pe_or (pe_cmpR (uEqK K hr.units) (pv 1) pe_str (nomark _)) (pe_one (pe_cmpR (uNeK K hr.units) (pe_ix (ix_seqK K) (pv 1) pe_int (fun _ _ => rfl)) pe_str (nomark _))))))))) pss_nil)
      (pss_cons (ps_if (pt_cmpR (uEqK K hr.units) (pv 0) pe_str (nomark _)) (pss_one (ps_ret (pe_or (pe_cmpR (uEqK K hr.units) (pv 1) pe_str (nomark _)) (pe_one (pe_cmpR (uEqK K hr.units) (pv 1) pe_str (nomark _)))))) pss_nil)
      (pss_cons (ps_set (i := 2) sc_l_law_right.nd rfl (by first | exact .inl rfl | exact .inr rfl) pe_str)
      (pss_cons (ps_set (i := 3) sc_l_law_right.nd rfl (by first | exact .inl rfl | exact .inr rfl) (pe_and (pe_df D_l_law_consists hr (by first | decide | exact Nat.le_refl _ | omega) (by rfl) (pa_cons (pv 1) (pa_cons (pe_op (uAddK K) (pv 2) pe_str) pa_nil))) (pe_one (pe_cmpR op_le (pe_callB (uLenK K) (by rfl) Z.len (by decide +kernel) (pa_cons (pv 1) pa_nil)) pe_int (nomark _)))))
      (pss_cons (ps_if (pt_cmpR (uEqK K hr.units) (pv 0) pe_str (nomark _)) (pss_one (ps_ret (pe_and (pv 3) (pe_one (pe_cmpR (uInK K) (pe_ix (ix_seqK K) (pv 1) pe_int (fun _ _ => rfl)) (pv 2) (by rfl)))))) pss_nil)
      (pss_one (ps_ret (pe_or (pv 3) (pe_one (pe_cmpR (uEqK K hr.units) (pv 1) pe_str (nomark _))))))))))),  fun ds d F0 H0 Q r rt => ?_⟩
  obtain ⟨x, y, t, rfl, hxy, h1, h2, rfl⟩ := r
  have hz : t.length ≤ 100000 := by omega
  have hk := kd_cases hxy
  refine q_if (b := decide (x = "n")) (t_test (b_op (E.b (e_var rfl)) (E.b e_str) eq_s rfl)) (fun z => ?_) fun z => s_next (n_go ?_)
  · have z := of_decide_eq_true z
    obtain ⟨_, rfl⟩ : x = "n" ∧ y = "number" := by
      rcases hk with h | ⟨h, _⟩ | ⟨h, _⟩ | ⟨h, _⟩
      · exact h
      all_goals (rw [z] at h; exact absurd h (by decide))
    rw [srt_num, num_eq h1] at rt
    exact s_ret (e_andV (e_call (ds := [.str t, .str DG0]) (a_cons (e_var rfl) (a_cons e_str a_nil)) ⟨t, DG0, rfl, rfl⟩) fun _ => e_andV (b_op (E.b (b_cb (ab_cons (E.b (e_var rfl)) ab_nil) (len_s hz) rfl)) (E.b e_int) le_i rfl) fun _ => e_orV (b_op (E.b (e_var rfl)) (E.b e_str) eq_s rfl) fun _ => b_op (E.b (e_op (e_var rfl) e_int (ix_s hz (at_hdC h1)))) (E.b e_str) ne_s rfl) rt
  have z1 := of_decide_eq_false z
  refine q_if (b := decide (x = "t")) (t_test (b_op (E.b (e_var rfl)) (E.b e_str) eq_s rfl)) (fun z => ?_) fun z => s_next (n_go ?_)
  · have z := of_decide_eq_true z
    obtain ⟨_, rfl⟩ : x = "t" ∧ y = "test" := by
      rcases hk with ⟨h, _⟩ | h | ⟨h, _⟩ | ⟨h, _⟩
      · rw [z] at h; exact absurd h (by decide)
      · exact h
      all_goals (rw [z] at h; exact absurd h (by decide))
    rw [srt_test] at rt
    exact s_ret (e_orV (b_op (E.b (e_var rfl)) (E.b e_str) eq_s rfl) fun _ => b_op (E.b (e_var rfl)) (E.b e_str) eq_s rfl) rt
  have z2 := of_decide_eq_false z
  refine q_asg (d := .str LE) e_str ?_
  have c2 : CH2 = LE ++ "0123456789_" := rfl
  have l2 : LE.length + ("0123456789_" : Str).length ≤ 100000 := by decide +kernel
  refine q_asg (d := .bool (plnW t)) (e_andV (e_call (ds := [.str t, .str CH2]) (a_cons (e_var rfl) (a_cons (e_op (e_var rfl) e_str (add_s l2)) a_nil)) ⟨t, CH2, rfl, rfl⟩) fun _ => b_op (E.b (b_cb (ab_cons (E.b (e_var rfl)) ab_nil) (len_s hz) rfl)) (E.b e_int) le_i rfl) ?_
  show S _ _ _ [.fz (.str x), .fz (.str t), .fz (.str LE), .fz (.bool (plnW t))]
  have pv := pln_val h1
  generalize plnW t = pb at pv ⊢
  subst pv
  refine q_if (b := decide (x = "a")) (t_test (b_op (E.b (e_var rfl)) (E.b e_str) eq_s rfl)) (fun z => ?_) fun z => s_next (n_go ?_)
  · have z := of_decide_eq_true z
    obtain ⟨_, rfl⟩ : x = "a" ∧ y = "name" := by
      rcases hk with ⟨h, _⟩ | ⟨h, _⟩ | h | ⟨h, _⟩
      · rw [z] at h; exact absurd h (by decide)
      · rw [z] at h; exact absurd h (by decide)
      · exact h
      · rw [z] at h; exact absurd h (by decide)
    rw [srt_name] at rt
    exact s_ret (e_andV (e_var rfl) fun _ => b_op (E.b (e_op (e_var rfl) e_int (ix_s hz (at_hdC h1)))) (E.b (e_var rfl)) in_sg rfl) rt
  · have z3 := of_decide_eq_false z
    obtain ⟨_, rfl⟩ : x = "v" ∧ y = "value" := by
      rcases hk with ⟨h, _⟩ | ⟨h, _⟩ | ⟨h, _⟩ | h
      · exact absurd h z1
      · exact absurd h z2
      · exact absurd h z3
      · exact h
    rw [srt_val] at rt
    exact s_ret (e_orV (e_var rfl) fun _ => b_op (E.b (e_var rfl)) (E.b e_str) eq_s rfl) rt
end

/-! ### the law's check of a line -/
section
variable {g : Gd} {G : List Sl} {td tk : TE} {d : PyData} {kvs : List (Str × PyData)}
theorem eod_disp {trs : List (TE × TE)} {q : List (Str × PyData)} (h : PrE g G trs q) (l : q.length ≤ 15) : EOD g (tDisp trs) G (putAll [] q) := fun σ F H hh Q qq => by
  intro p hp
  have s0 := Stp.mine (o := .dK []) hh.st.i hp
  refine pairs_run trs q F _ h (hh.mono s0) fun F2 H2 kvs2 s2 kv2 => ?_
  have a1 := s2.h.dk (p := p) (xs := []) upd_same
  have a2 : F2 p = none := s2.n p _ upd_same (hh.st.i.free hp)
  refine ⟨a1, kvs2, rfl, by rw [kv_len kv2]; exact l, ?_⟩
  have s3 := (s0.trans s2).mut (o2 := .dK (mergeK [] kvs2)) hp a2 a1 (fun _ z => by cases z)
  exact qq p _ F2 _ s3 hp a2 upd_same (kv_mergeK kv2 kv_nil)
theorem e_dgetO {x : Str} (h : EOD g td G kvs) (hk : E g tk G (.str x)) (e : getK kvs x = some d) : E g (tDGet td tk) G d := fun σ F H hh Q q => h σ F H hh _ fun D vs F1 H1 s1 h0 hF hH kv => hk σ F1 H1 (hh.mono s1) _ fun u F2 H2 s2 d2 => by
  cases d2
  obtain ⟨v, e1, e2⟩ := (kv_get kv).1 d e
  exact ⟨D, v, rfl, .inl ⟨vs, .inr x, .inl (s2.h.dk hH), rfl, e1.symm⟩, q v F2 H2 (s1.trans s2) (s2.f.dp d v e2)⟩
end
def kdC (c : Nat) : Str := (KD.lookup ⟨#[c]⟩).getD ""
def kdOk (c : Nat) : Bool := decide (((⟨#[c]⟩ : Str), kdC c) ∈ KD)
def moB (x : Str) : Option Str → Bool
  | none => decide (furF x = "")
  | some m => decide (furF x = ⟨#[(furF x).cps.toList.getD 0 0]⟩) && (decide (kdC ((furF x).cps.toList.getD 0 0) = m) && kdOk ((furF x).cps.toList.getD 0 0))
def shB (x : Str) (e : Shp) : Option Str → Bool
  | none => false
  | some sh => (decide (sh.cps.toList.map kdC = e.1) && sh.cps.toList.all kdOk) && moB x e.2
def tbB (q : Str × Shp) : Bool := shB q.1 q.2 (LS76.lookup q.1)
theorem tb_ok : ∀ q ∈ TB76, tbB q = true := by decide +kernel
theorem ls_miss : ∀ k ∈ MS76, LS76.lookup k = none := by decide +kernel
theorem rep_fold (c : Nat) : ∀ (k : Nat) (acc : Array Nat), ((List.replicate k (#[c] : Array Nat)).foldl (· ++ ·) acc).toList = acc.toList ++ List.replicate k c
  | 0, acc => by simp
  | k + 1, acc => by
    rw [List.replicate_succ, List.foldl_cons, rep_fold c k, Array.toList_append, List.append_assoc]; rfl
theorem mul_sg (c : Nat) (n : Nat) : (mulS ⟨#[c]⟩ (n : Int)).cps.toList = List.replicate n c := by
  unfold mulS
  by_cases h0 : (n : Int) < 1
  · have : n = 0 := by omega
    subst this
    rfl
  · rw [if_neg h0]
    by_cases h1 : n = 1
    · subst h1; rfl
    · have : (((n : Int) == 1) || (⟨#[c]⟩ : Str).length == 0) = false := by
        have e : ((n : Int) == 1) = false := beq_eq_false_iff_ne.mpr (by omega)
        rw [e]; rfl
      rw [if_neg (by rw [this]; decide)]
      show ((List.replicate ((n : Int)).toNat (#[c] : Array Nat)).foldl (· ++ ·) #[]).toList = _
      rw [rep_fold, Int.toNat_natCast]; rfl
theorem mul_emp (n : Int) : mulS "" n = "" := by
  unfold mulS
  split
  · decide +kernel
  · rw [if_pos (by rw [Bool.or_eq_true]; exact .inr (by decide +kernel))]
theorem app_cps76 (a b : Str) : (a ++ b).cps.toList = a.cps.toList ++ b.cps.toList := by
  show (a.cps ++ b.cps).toList = _
  rw [Array.toList_append]
theorem cps_len76 (t : Str) : t.cps.toList.length = t.length := by rw [Array.length_toList]; rfl
/-- the letters of a shape, and the sorts they stand for -/
structure ShpOk (sh : Str) (ss : List Str) : Prop where
  eq : sh.cps.toList.map kdC = ss
  ok : ∀ c ∈ sh.cps.toList, kdOk c = true
/-- the longer shape -/
theorem shp_more {x : Str} {e : Shp} (h : (x, e) ∈ TB76) : ∃ sh, lshF x = some sh ∧ sh.length ≤ 4 ∧ ShpOk sh e.1 ∧ ∀ n : Nat, (sh.length < n → ShpOk (sh ++ mulS (furF x) ((n : Int) - (sh.length : Int))) (srtF e n)) ∧ (n ≤ sh.length → srtF e n = e.1) := by
  have hb := tb_ok _ h
  have hl := tb_len _ h
  obtain ⟨es, em⟩ := e
  have hb : shB x (es, em) (LS76.lookup x) = true := hb
  cases hs : LS76.lookup x with
  | none => rw [hs] at hb; cases hb
  | some sh =>
    rw [hs] at hb
    have hb := Bool.and_eq_true_iff.mp hb
    have hb1 := Bool.and_eq_true_iff.mp hb.1
    have e1 : sh.cps.toList.map kdC = es := of_decide_eq_true hb1.1
    have e2 := List.all_eq_true.mp hb1.2
    have so : ShpOk sh es := ⟨e1, e2⟩
    have ln : sh.length = es.length := by rw [← cps_len76, ← e1, List.length_map]
    have hl : es.length ≤ 4 := hl
    refine ⟨sh, hs, by omega, so, fun n => ?_⟩
    cases em with
    | none =>
      have e3 := of_decide_eq_true hb.2
      refine ⟨fun _ => ?_, fun _ => rfl⟩
      rw [e3, mul_emp]
      have : sh ++ ("" : Str) = sh := by
        have h4 : ("" : Str).cps.toList = [] := by decide +kernel
        cases sh with
        | mk a =>
          show (⟨a ++ ("" : Str).cps⟩ : Str) = ⟨a⟩
          congr 1
      rw [this]
      exact so
    | some m =>
      have hb2 := Bool.and_eq_true_iff.mp hb.2
      have e3 := of_decide_eq_true hb2.1
      have hb3 := Bool.and_eq_true_iff.mp hb2.2
      have e4 := of_decide_eq_true hb3.1
      have e5 := hb3.2
      generalize (furF x).cps.toList.getD 0 0 = c at e3 e4 e5
      refine ⟨fun hn => ?_, fun hn => ?_⟩
      · have e6 : ((n : Int) - (sh.length : Int)) = ((n - sh.length : Nat) : Int) := by omega
        have e7 : (sh ++ mulS (furF x) ((n : Int) - (sh.length : Int))).cps.toList = sh.cps.toList ++ List.replicate (n - sh.length) c := by rw [app_cps76, e3, e6, mul_sg]
        refine ⟨?_, fun d hd => ?_⟩
        · rw [e7, List.map_append, List.map_replicate, e1, e4, ln]; rfl
        · rw [e7] at hd
          rcases List.mem_append.mp hd with hd | hd
          · exact e2 d hd
          · rw [List.eq_of_mem_replicate hd]; exact e5
      · show es ++ List.replicate (n - es.length) m = es
        rw [show n - es.length = 0 by omega]
        exact List.append_nil _

abbrev QD : List (Str × PyData) := [("n", .str "number"), ("a", .str "name"), ("t", .str "test"), ("v", .str "value")]
theorem qd_get {c : Nat} (h : kdOk c = true) : getK (putAll [] QD) ⟨#[c]⟩ = some (.str (kdC c)) := by
  have h := kd_cases (of_decide_eq_true h)
  rcases h with ⟨h1, h2⟩ | ⟨h1, h2⟩ | ⟨h1, h2⟩ | ⟨h1, h2⟩ <;> rw [h1, h2] <;> rfl
theorem fin_ne {ss ss' r : List Str} (h : ss.length ≠ r.length) (h' : ss'.length ≠ r.length) : finF ss r = finF ss' r := by
  unfold finF
  rw [if_neg h, if_neg h']
theorem sh_n : ShpOk "n" ["number"] := ⟨by decide +kernel, by decide +kernel⟩
theorem sh_0 : ShpOk "" [] := ⟨by decide +kernel, by decide +kernel⟩
theorem fur_route : furF "route" = "" := by decide +kernel
theorem ls_route : lshF "route" = some "" := by decide +kernel
theorem ls_expr : lshF "expr" = some "" := by decide +kernel
theorem emp76 : ("" : Str) ++ ("" : Str) = "" := by decide +kernel
/-- what is known of the shape before it grows -/
def P176 (x : Str) (r : List Str) (R : List Str → Prop) (sh : Str) : Prop := sh.length ≤ 4 ∧ ∃ ss, R ss ∧ ss.length ≤ 500 ∧ (sh.length < r.length → ShpOk (sh ++ mulS (furF x) ((r.length : Int) - (sh.length : Int))) ss) ∧ (r.length ≤ sh.length → ShpOk sh ss)
section
variable {P : Program} {w : World} {K : PySem.W.Frag} {mg : Str → Option Value} {base : Heap} {f : Addr} {fd : FuncData} {Tb : List Addr} {k : Nat}
def R_lc : List PyData → PyData → Prop := fun ds d => ∃ (x : Str) (r : List Str), ds = [sL (x :: r)] ∧ okW x ∧ r.length ≤ 100 ∧ (∀ t ∈ r, 1 ≤ t.length ∧ t.length ≤ 5000) ∧ d = osD (cwF x r)
set_option maxHeartbeats 8000000 in
theorem ok_lc (Fn : Fun K "_law_checked" "_law_checked" s_l_law_checked f fd) (hm : mg "_law_checked" = some (.ref f)) (hb : Binds K fd ["words"] []) (Z : Zb mg)
    (D_l_law_shape : Df P w K mg base 1 "_law_shape" ["word"] (spD K Tb R_shp)) (D_l_law_further : Df P w K mg base 1 "_law_further" ["word"] (spD K Tb R_fur))
    (D_l_law_right : Df P w K mg base 2 "_law_right" ["kind", "word"] (spD K Tb R_rgt)) :
    Df P w K mg base 3 "_law_checked" ["words"] (spD K Tb R_lc) := by
  refine df_D Fn sc_l_law_checked hm hb (fun ds d h => by obtain ⟨_, _, rfl, _⟩ := h; rfl) fun cdv A outer s H Ek hr => ⟨_, (pss_cons (ps_set (i := 1) sc_l_law_checked.nd rfl (by first | exact .inl rfl | exact .inr rfl) (pe_df D_l_law_shape hr (by first | decide | exact Nat.le_refl _ | omega) (by rfl) (pa_cons (pe_ix (ix_seqK K) (pv 0) pe_int (fun _ _ => rfl)) pa_nil)))
      (pss_cons (ps_set (i := 2) sc_l_law_checked.nd rfl (by first | exact .inl rfl | exact .inr rfl) (pe_op op_sub (pe_callB (uLenK K) (by rfl) Z.len (by decide +kernel) (pa_cons (pv 0) pa_nil)) pe_int))
      (pss_cons (ps_if (pt_cmpR uIsN (pv 1) pe_non (nomark _)) (pss_one (ps_ret pe_str)) pss_nil)
      (pss_cons (ps_if (pt_cmpR (uEqK K hr.units) (pe_ix (ix_seqK K) (pv 0) pe_int (fun _ _ => rfl)) pe_str (nomark _)) (pss_one (ps_ret (pe_ifExp (pt_cmpR (uEqK K hr.units) (pv 2) pe_int (nomark _)) pe_str pe_non))) pss_nil)
      (Evl.pss_cut (ps_if (PW.pt (pw_and (pt_cmpR (uEqK K hr.units) (pe_ix (ix_seqK K) (pv 0) pe_int (fun _ _ => rfl)) pe_str (nomark _)) (pw_and1 (pt_cmpR (uEqK K hr.units) (pv 2) pe_int (nomark _))))) (pss_one (ps_set (i := 1) sc_l_law_checked.nd rfl (by first | exact .inl rfl | exact .inr rfl) pe_str)) pss_nil)
      (Evl.pss_cut (ps_if (pt_cmpR op_gt (pv 2) (pe_callB (uLenK K) (by rfl) Z.len (by decide +kernel) (pa_cons (pv 1) pa_nil)) (nomark _)) (pss_one (ps_set (i := 1) sc_l_law_checked.nd rfl (by first | exact .inl rfl | exact .inr rfl) (pe_op (uAddK K) (pv 1) (pe_op uMul (pe_df D_l_law_further hr (by first | decide | exact Nat.le_refl _ | omega) (by rfl) (pa_cons (pe_ix (ix_seqK K) (pv 0) pe_int (fun _ _ => rfl)) pa_nil)) (pe_op op_sub (pv 2) (pe_callB (uLenK K) (by rfl) Z.len (by decide +kernel) (pa_cons (pv 1) pa_nil))))))) pss_nil)
      (pss_cons (ps_if (pt_cmpR (uNeK K hr.units) (pv 2) (pe_callB (uLenK K) (by rfl) Z.len (by decide +kernel) (pa_cons (pv 1) pa_nil)) (nomark _)) (pss_one (ps_ret pe_str)) pss_nil)
      (pss_cons (ps_for PassesOwn.never rfl (pi_range1 (by rfl) Z.range (pa_cons (pv 2) pa_nil)) (pg_name (i := 3) sc_l_law_checked.nd rfl (by first | exact .inl rfl | exact .inr rfl)) (pss_one (ps_if (pt_not (pt_truthK K (pe_df D_l_law_right hr (by first | decide | exact Nat.le_refl _ | omega) (by rfl) (pa_cons (pe_ix (ix_seqK K) (pv 1) (pv 3) (fun _ _ => rfl)) (pa_cons (pe_ix (ix_seqK K) (pv 0) (pe_op (uAddK K) (pv 3) pe_int) (fun _ _ => rfl)) pa_nil))) (by intro _; rfl))) (pss_one (ps_ret (pe_dget (hu_of hr) (pe_disp (pps_cons pe_str pe_str (pps_cons pe_str pe_str (pps_cons pe_str pe_str (pps_cons pe_str pe_str pps_nil)))) (by rfl) rfl (by simp) (by decide)) (pe_ix (ix_seqK K) (pv 1) (pv 3) (fun _ _ => rfl)) (fun _ _ => rfl)))) pss_nil)))
      (pss_one (ps_ret pe_non)))))))))),  fun ds d F0 H0 Q r rt => ?_⟩
  obtain ⟨x, r, rfl, okx, hr1, hrl, rfl⟩ := r
  have a0 : atI ((x :: r).map PyData.str) 0 = some (.str x) := by rw [at_str (by decide) (by simp)]; rfl
  have e1 : ((r.length : Nat) : Int) = ((((x :: r).map PyData.str).length : Nat) : Int) - 1 := by rw [List.length_map, List.length_cons]; omega
  refine q_asg (d := osD (lshF x)) (e_call (ds := [.str x]) (a_cons (e_op (e_var rfl) e_int (ix_l a0)) a_nil) ⟨x, rfl, rfl⟩) ?_
  refine q_asg (d := .int (r.length : Nat)) (by rw [e1]; exact e_op (b_cb (ab_cons (E.b (e_var rfl)) ab_nil) len_l rfl) e_int sub_i) ?_
  show S _ _ _ [.fz (sL (x :: r)), .fz (osD (lshF x)), .fz (.int (r.length : Nat)), .un]
  unfold cwF at rt
  by_cases hms : x ∈ MS76
  · obtain ⟨m1, m2, m3⟩ := tb_miss _ hms
    have hl : lshF x = none := ls_miss _ hms
    rw [if_neg m2, if_neg m3, m1] at rt
    rw [hl]
    exact q_if (b := isND (osD none)) (t_test (b_op (E.b (e_var rfl)) (E.b e_non) is_n rfl)) (fun _ => s_ret e_str rt) fun z => by cases z
  by_cases hx : x = "expr"
  · rw [if_pos hx] at rt
    rw [show lshF x = some "" by rw [hx]; exact ls_expr]
    refine q_if (b := isND (osD (some ""))) (t_test (b_op (E.b (e_var rfl)) (E.b e_non) is_n rfl)) (fun z => by cases z) fun _ => s_next (n_go ?_)
    refine q_if (b := decide (x = "expr")) (t_test (b_op (E.b (e_op (e_var rfl) e_int (ix_l a0))) (E.b e_str) eq_s rfl)) (fun _ => ?_) fun z => absurd hx (of_decide_eq_false z)
    refine s_ret (e_if (b := decide (((r.length : Nat) : Int) = 0)) (t_test (b_op (E.b (e_var rfl)) (E.b e_int) eq_i rfl)) (fun z => ?_) fun z => ?_) rt
    · have : r = [] := List.length_eq_zero_iff.mp (by have := of_decide_eq_true z; omega)
      rw [if_pos this]
      exact e_str
    · have : r ≠ [] := fun h => of_decide_eq_false z (by rw [h]; rfl)
      rw [if_neg this]
      exact e_non
  rw [if_neg hx] at rt
  obtain ⟨sh, hsh, h4, pp⟩ : ∃ sh, lshF x = some sh ∧ sh.length ≤ 4 ∧ ∀ sh' : Str, (sh' = if x = "route" ∧ r.length = 1 then ("n" : Str) else sh) → P176 x r (fun ss => Rt ⟨K, Tb, F0, H0, F0⟩ Q (osD (finF ss r))) sh' := by
    by_cases hr2 : x = "route"
    · rw [if_pos hr2] at rt
      subst hr2
      refine ⟨"", ls_route, by decide, fun sh' e => ?_⟩
      subst e
      match r, rt, hr1 with
      | [], rt, _ => exact ⟨by decide, [], rt, by decide, fun h => by simp at h, fun _ => sh_0⟩
      | [a], rt, _ =>
        rw [if_pos ⟨rfl, rfl⟩]
        have n1 : ("n" : Str).length = 1 := by decide +kernel
        exact ⟨by decide, ["number"], rt, by decide, fun h => by rw [n1] at h; simp at h, fun _ => sh_n⟩
      | a :: b :: r', rt, _ =>
        rw [if_neg (fun h => by have := h.2; simp at this)]
        refine ⟨by decide, [], ?_, by decide, fun _ => ?_, fun h => absurd h (by show ¬ _ ≤ 0; simp)⟩
        · have rt : Rt ⟨K, Tb, F0, H0, F0⟩ Q (osD (finF ["number"] (a :: b :: r'))) := rt
          rw [fin_ne (ss' := []) (by simp) (by simp)] at rt
          exact rt
        · rw [fur_route, mul_emp, emp76]
          exact sh_0
    · rw [if_neg hr2] at rt
      obtain ⟨e, he⟩ : ∃ e, (x, e) ∈ TB76 := by
        rcases okx with h | h | h | h
        · exact absurd h hx
        · exact absurd h hr2
        · exact h
        · exact absurd h hms
      rw [(tb_has _ he).1] at rt
      obtain ⟨sh, h1, h2, h3, h4⟩ := shp_more he
      refine ⟨sh, h1, h2, fun sh' e' => ?_⟩
      rw [if_neg (fun h => hr2 h.1)] at e'
      subst e'
      refine ⟨h2, srtF e r.length, rt, Nat.le_trans (srt_len (tb_len _ he) _) (by omega), (h4 r.length).1, fun h => ?_⟩
      rw [(h4 r.length).2 h]
      exact h3
  rw [hsh]
  refine q_if (b := isND (osD (some sh))) (t_test (b_op (E.b (e_var rfl)) (E.b e_non) is_n rfl)) (fun z => by cases z) fun _ => s_next (n_go ?_)
  refine q_if (b := decide (x = "expr")) (t_test (b_op (E.b (e_op (e_var rfl) e_int (ix_l a0))) (E.b e_str) eq_s rfl)) (fun z => absurd (of_decide_eq_true z) hx) fun _ => s_next (n_go ?_)
  show S _ _ _ [.fz (sL (x :: r)), .fz (.str sh), .fz (.int (r.length : Nat)), .un]
  refine s_cutA (α := Str) (fun y => [.fz (sL (x :: r)), .fz (.str y), .fz (.int (r.length : Nat)), .un]) (P176 x r fun ss => Rt ⟨K, Tb, F0, H0, F0⟩ Q (osD (finF ss r))) ?_ fun y hy => ?_
  · refine s_if (b := decide (x = "route") && decide (((r.length : Nat) : Int) = 1)) (t_and (t_test (b_op (E.b (e_op (e_var rfl) e_int (ix_l a0))) (E.b e_str) eq_s rfl)) fun _ => t_test (b_op (E.b (e_var rfl)) (E.b e_int) eq_i rfl)) (fun z => ?_) fun z => ?_
    · have z := Bool.and_eq_true_iff.mp z
      have z1 := of_decide_eq_true z.1
      have z2 := of_decide_eq_true z.2
      exact s_asg (d := .str "n") e_str (n_end "n" (pp "n" (by rw [if_pos ⟨z1, by omega⟩])) (by walk_at "w"))
    · have hno : ¬ (x = "route" ∧ r.length = 1) := fun h => by
        rw [decide_eq_true h.1, decide_eq_true (show ((r.length : Nat) : Int) = 1 by omega)] at z
        cases z
      exact s_next (n_end sh (pp sh (by rw [if_neg hno])) (by walk_at "w"))
  obtain ⟨y4, ss, rs, s5, yl, ys⟩ := hy
  have yz : y.length ≤ 100000 := by omega
  refine s_cutA (α := Str) (fun y => [.fz (sL (x :: r)), .fz (.str y), .fz (.int (r.length : Nat)), .un]) (fun y => ShpOk y ss) ?_ fun y2 hy2 => ?_
  · refine s_if (b := decide ((y.length : Int) < ((r.length : Nat) : Int))) (t_test (b_op (E.b (e_var rfl)) (E.b (b_cb (ab_cons (E.b (e_var rfl)) ab_nil) (len_s yz) rfl)) gt_i rfl)) (fun z => ?_) fun z => ?_
    · have z := of_decide_eq_true z
      have ok := yl (by omega)
      have fl : (furF x).length ≤ 1 := by
        unfold furF
        split
        · decide +kernel
        · split <;> decide +kernel
      have ml : (mulS (furF x) ((r.length : Int) - (y.length : Int))).length ≤ 1000 := by
        have e := congrArg List.length ok.eq
        rw [List.length_map, cps_len76, add_len] at e
        omega
      exact s_asg (d := .str (y ++ mulS (furF x) ((r.length : Int) - (y.length : Int)))) (e_op (e_var rfl) (e_op (e_call (ds := [.str x]) (a_cons (e_op (e_var rfl) e_int (ix_l a0)) a_nil) ⟨x, rfl, rfl⟩) (e_op (e_var rfl) (b_cb (ab_cons (E.b (e_var rfl)) ab_nil) (len_s yz) rfl) sub_i) (mul_s (by omega) (by omega) (by omega))) (add_s (by omega))) (n_end _ ok (by walk_at "w"))
    · have z := of_decide_eq_false z
      exact s_next (n_end y (ys (by omega)) (by walk_at "w"))
  have ly : y2.length = ss.length := by rw [← cps_len76, ← hy2.eq, List.length_map]
  have yz2 : y2.length ≤ 100000 := by omega
  refine q_if (b := !decide (((r.length : Nat) : Int) = ((y2.length : Nat) : Int))) (t_test (b_op (E.b (e_var rfl)) (E.b (b_cb (ab_cons (E.b (e_var rfl)) ab_nil) (len_s yz2) rfl)) ne_i rfl)) (fun z => ?_) fun z => s_next (n_go ?_)
  · have hne : ss.length ≠ r.length := fun e => by
      rw [decide_eq_true (show ((r.length : Nat) : Int) = ((y2.length : Nat) : Int) by omega)] at z
      cases z
    unfold finF at rs
    rw [if_neg hne] at rs
    exact s_ret e_str rs
  have hll : ss.length = r.length := by
    by_cases h : ((r.length : Nat) : Int) = ((y2.length : Nat) : Int)
    · omega
    · rw [decide_eq_false h] at z; cases z
  unfold finF at rs
  rw [if_pos hll] at rs
  refine q_for (α := Unit) (fun _ _ => [.fz (sL (x :: r)), .fz (.str y2), .fz (.int (r.length : Nat)), .un]) (fun i _ => ((ss.zip r).drop i).find? badF = (ss.zip r).find? badF) (it_rng1 (n := ((r.length : Nat) : Int)) (a_cons (e_var rfl) a_nil) (by omega) (by omega)) () rfl (Wk.refl _) (fun F1 i _ d hd hp => ?_) fun _ hp => ?_
  · obtain ⟨hi, rfl⟩ := rngD_get hd
    have hi : i < r.length := by omega
    have hyi : i < y2.cps.toList.length := by rw [cps_len76]; omega
    obtain ⟨c, hc⟩ : ∃ c, y2.cps.toList[i]? = some c := ⟨_, List.getElem?_eq_getElem hyi⟩
    obtain ⟨t, ht⟩ : ∃ t, r[i]? = some t := ⟨_, List.getElem?_eq_getElem hi⟩
    have hs : ss[i]? = some (kdC c) := by rw [← hy2.eq, List.getElem?_map, hc]; rfl
    have hz : (ss.zip r)[i]? = some (kdC c, t) := by rw [List.getElem?_zip_eq_some]; exact ⟨hs, ht⟩
    have kc := hy2.ok c (List.mem_of_getElem? hc)
    have tr := hrl t (List.mem_of_getElem? ht)
    have hp : ((ss.zip r).drop i).find? badF = (ss.zip r).find? badF := hp
    rw [drop_get hz, List.find?_cons] at hp
    have ac : atI y2.cps.toList (0 + (i : Int)) = some c := by rw [Int.zero_add, at_nat (by omega) (by omega)]; exact hc
    have ar : atI ((x :: r).map PyData.str) (0 + (i : Int) + 1) = some (.str t) := by
      rw [show (0 + (i : Int) + 1) = ((i + 1 : Nat) : Int) by omega, at_nat (by omega) (by rw [List.length_map, List.length_cons]; omega), List.getElem?_map]
      show Option.map PyData.str ((x :: r)[i + 1]?) = _
      rw [List.getElem?_cons_succ, ht]; rfl
    refine ⟨_, _, g_name, ?_⟩
    show S _ _ _ [.fz (sL (x :: r)), .fz (.str y2), .fz (.int (r.length : Nat)), .fz (.int (0 + (i : Int)))]
    refine s_if (b := badF (kdC c, t)) (t_not (t_tru (d := .bool (sortB (kdC c) t)) (E.b (e_call (ds := [.str ⟨#[c]⟩, .str t]) (a_cons (e_op (e_var rfl) (e_var rfl) (ix_s yz2 ac)) (a_cons (e_op (e_var rfl) (e_op (e_var rfl) e_int add_i) (ix_l ar)) a_nil)) ⟨⟨#[c]⟩, kdC c, t, rfl, of_decide_eq_true kc, tr.1, tr.2, rfl⟩)) rfl)) (fun z => ?_) fun z => ?_
    · rw [z] at hp
      rw [← hp] at rs
      exact s_ret (e_dgetO (x := ⟨#[c]⟩) (eod_disp (q := QD) ⟨e_str, e_str, e_str, e_str, e_str, e_str, e_str, e_str, trivial⟩ (by decide)) (e_op (e_var rfl) (e_var rfl) (ix_s yz2 ac)) (qd_get kc)) rs
    · rw [z] at hp
      exact s_next (n_end () hp (by walk_at "w"))
  · have hp : ((ss.zip r).drop (rngD 0 ((r.length : Nat) : Int).toNat).length).find? badF = (ss.zip r).find? badF := hp
    rw [rngD_len, Int.toNat_natCast, List.drop_of_length_le (by rw [List.length_zip]; omega)] at hp
    rw [← hp] at rs
    exact s_ret e_non rs
end

/-! ### the law's words -/
theorem cutS_len (z : Str) (lo hi : Option Int) : (cutS z lo hi).length ≤ z.length := by
  show ((z.cps.toList.drop _).take _).toArray.size ≤ z.cps.size
  rw [List.size_toArray, List.length_take, List.length_drop, Array.length_toList]; omega
theorem tS_pos (n : Nat) : 1 ≤ (tS (n : Int)).length := by
  have h : tS (n : Int) = Str.ofString (Nat.repr n) := rfl
  rw [h]
  have h2 := PySem.toDigits_len_ge 10 n
  have h3 : (Str.ofString (Nat.repr n)).length = (Nat.toDigits 10 n).length := by
    rw [Str.ofString_eq_toList]
    show ((Nat.repr n).toList.map Char.toNat).toArray.size = _
    simp [Nat.repr]
  omega
def okT (t : Str) : Prop := 1 ≤ t.length ∧ t.length ≤ 5000
def R_wd : List PyData → PyData → Prop := fun _ d => ∃ t : Str, d = .str t ∧ okT t
def A_wd : List PyData → Prop := fun ds => ∃ (x : Str) (n : Nat), ds = [.str x, .int (n : Nat)] ∧ n < 1000
theorem oT_of {l : List Str} {i : Int} (h : ∀ x ∈ l, okT x) (h0 : 0 ≤ i) (h1 : i < l.length) : okT (itS l i) := h _ (itS_mem h0 h1)
section
variable {P : Program} {w : World} {K : PySem.W.Frag} {mg : Str → Option Value} {base : Heap} {f : Addr} {fd : FuncData} {Tb : List Addr} {k : Nat}
theorem ok_wrong (Fn : Fun K "_law_wrong" "_law_wrong" s_l_law_wrong f fd) (hm : mg "_law_wrong" = some (.ref f)) (hb : Binds K fd ["kind", "draw"] []) (Z : Zb mg) :
    Df P w K mg base 1 "_law_wrong" ["kind", "draw"] (spA K Tb A_wd R_wd) := by
  refine df_A Fn sc_l_law_wrong hm hb (fun ds h => by obtain ⟨_, _, rfl, _⟩ := h; rfl) fun cdv A outer s H Ek hr => ⟨_, (pss_cons (ps_set (i := 2) sc_l_law_wrong.nd rfl (by first | exact .inl rfl | exact .inr rfl) (pe_op op_fdiv (pe_callTy uInt (by rfl) Z.int (by decide +kernel) (pa_cons (pv 1) pa_nil)) pe_int))
      (pss_cons (ps_if (pt_cmpR (uEqK K hr.units) (pv 0) pe_str (nomark _)) (pss_one (ps_ret (pe_ix (ix_seqK K) (pe_lst (pa_cons pe_str (pa_cons pe_str (pa_cons pe_str (pa_cons pe_str (pa_cons pe_str (pa_cons pe_str (pa_cons pe_str (pa_cons pe_str (pa_cons pe_str (pa_cons pe_str (pa_cons (pe_op (uAddK K) pe_str (pe_callTy uStr (by rfl) Z.str (by decide +kernel) (pa_cons (pv 2) pa_nil))) pa_nil)))))))))))) (pe_op op_mod (pe_callTy uInt (by rfl) Z.int (by decide +kernel) (pa_cons (pv 1) pa_nil)) pe_int) (fun _ _ => rfl)))) pss_nil)
      (pss_cons (ps_if (pt_cmpR (uEqK K hr.units) (pv 0) pe_str (nomark _)) (pss_one (ps_ret (pe_ix (ix_seqK K) (pe_lst (pa_cons pe_str (pa_cons pe_str (pa_cons pe_str (pa_cons pe_str (pa_cons pe_str (pa_cons pe_str (pa_cons pe_str (pa_cons pe_str (pa_cons pe_str (pa_cons pe_str (pa_cons pe_str pa_nil)))))))))))) (pe_op op_mod (pe_callTy uInt (by rfl) Z.int (by decide +kernel) (pa_cons (pv 1) pa_nil)) pe_int) (fun _ _ => rfl)))) pss_nil)
      (pss_cons (ps_set (i := 3) sc_l_law_wrong.nd rfl (by first | exact .inl rfl | exact .inr rfl) (pe_op (uAddK K) pe_str (pe_slice (uSlK K) pe_str po_none (po_some (pe_op (uAddK K) pe_int (pe_op op_mod (pv 2) pe_int))))))
      (pss_cons (ps_if (pt_cmpR (uEqK K hr.units) (pv 0) pe_str (nomark _)) (pss_one (ps_ret (pe_ix (ix_seqK K) (pe_lst (pa_cons pe_str (pa_cons pe_str (pa_cons pe_str (pa_cons (pv 3) (pa_cons pe_str (pa_cons pe_str (pa_cons pe_str (pa_cons pe_str (pa_cons pe_str (pa_cons pe_str (pa_cons pe_str pa_nil)))))))))))) (pe_op op_mod (pe_callTy uInt (by rfl) Z.int (by decide +kernel) (pa_cons (pv 1) pa_nil)) pe_int) (fun _ _ => rfl)))) pss_nil)
      (pss_one (ps_ret (pe_ix (ix_seqK K) (pe_lst (pa_cons pe_str (pa_cons pe_str (pa_cons pe_str (pa_cons (pv 3) (pa_cons pe_str (pa_cons pe_str (pa_cons pe_str (pa_cons pe_str (pa_cons pe_str (pa_cons pe_str (pa_cons pe_str pa_nil)))))))))))) (pe_op op_mod (pe_callTy uInt (by rfl) Z.int (by decide +kernel) (pa_cons (pv 1) pa_nil)) pe_int) (fun _ _ => rfl))))))))),  fun ds F0 H0 Q r rt => ?_⟩
  obtain ⟨x, n, rfl, hn⟩ := r
  have m11 := md ((n : Nat) : Int) 11 (by decide)
  refine q_asg (d := .int ((n : Nat) / 11 : Int)) (by walk_at "e") ?_
  have e11 : ((n : Int) / 11) = ((n / 11 : Nat) : Int) := by omega
  rw [e11]
  have l0 : ("0" : Str).length = 1 := by decide +kernel
  have fit : ((n / 11 : Nat) : Int).natAbs.log2 < 1920 := log_fit (by omega) (by omega)
  have tl := tS_len fit
  refine q_if (b := decide (x = "n")) (t_test (b_op (E.b (e_var rfl)) (E.b e_str) eq_s rfl)) (fun _ => ?_) fun _ => s_next (n_go ?_)
  · let l : List Str := ["00", "01", "-1", "+1", "1a", "123456", "a", "1.0", "1_0", "-", ("0" : Str) ++ tS ((n / 11 : Nat) : Int)]
    have hl : l.length = 11 := rfl
    have ok : ∀ y ∈ l, okT y := fun y hy => by
      have h1 : ∀ y ∈ (["00", "01", "-1", "+1", "1a", "123456", "a", "1.0", "1_0", "-"] : List Str), 1 ≤ y.length ∧ y.length ≤ 5000 := by decide +kernel
      rcases List.mem_append.mp (show y ∈ (["00", "01", "-1", "+1", "1a", "123456", "a", "1.0", "1_0", "-"] : List Str) ++ [("0" : Str) ++ tS ((n / 11 : Nat) : Int)] from hy) with h | h
      · exact h1 y h
      · rw [List.mem_singleton.mp h]
        unfold okT
        rw [add_len, l0]
        omega
    have at_ : atI (l.map PyData.str) ((n : Int) % 11) = _ := at_str m11.1 m11.2
    have os := oT_of ok m11.1 (i := (n : Int) % 11) m11.2
    exact s_ret (e_op (EL.e (el_lst (ds := l.map .str) (a_cons e_str (a_cons e_str (a_cons e_str (a_cons e_str (a_cons e_str (a_cons e_str (a_cons e_str (a_cons e_str (a_cons e_str (a_cons e_str (a_cons (e_op e_str (b_cb (ab_cons (E.b (e_var rfl)) ab_nil) (str_i fit) rfl) (add_s (by omega))) a_nil))))))))))) (Nat.le_of_ble_eq_true rfl))) (by walk_at "e") (ix_l at_)) (fun v F H st dp => rt v F H _ st ⟨_, rfl, os⟩ dp)
  refine q_if (b := decide (x = "t")) (t_test (b_op (E.b (e_var rfl)) (E.b e_str) eq_s rfl)) (fun _ => ?_) fun _ => s_next (n_go ?_)
  · let l : List Str := ["is", "In", "=", "!=", "nots", "i", "0", "-", "no", "not_in", "ins"]
    have ok : ∀ y ∈ l, 1 ≤ y.length ∧ y.length ≤ 5000 := by decide +kernel
    have at_ : atI (l.map PyData.str) ((n : Int) % 11) = _ := at_str m11.1 m11.2
    have os := oT_of ok m11.1 (i := (n : Int) % 11) m11.2
    exact s_ret (e_op (EL.e (el_lst (ds := l.map .str) (a_cons e_str (a_cons e_str (a_cons e_str (a_cons e_str (a_cons e_str (a_cons e_str (a_cons e_str (a_cons e_str (a_cons e_str (a_cons e_str (a_cons e_str a_nil))))))))))) (Nat.le_of_ble_eq_true rfl))) (by walk_at "e") (ix_l at_)) (fun v F H st dp => rt v F H _ st ⟨_, rfl, os⟩ dp)
  have l1 : ("abcdefghijklmnopqrst" : Str).length = 20 := by decide +kernel
  have l2 : ("uvwxyz" : Str).length = 6 := by decide +kernel
  have lg : ∀ hi : Option Int, (cutS "uvwxyz" none hi).length ≤ 6 := fun hi => Nat.le_trans (cutS_len "uvwxyz" none hi) (Nat.le_of_eq l2)
  refine q_asg (d := .str (("abcdefghijklmnopqrst" : Str) ++ cutS "uvwxyz" none (some (1 + ((n / 11 : Nat) : Int) % 6)))) (e_op e_str (e_slS e_str (by rw [l2]; decide) o_none (o_some (by walk_at "e"))) (add_s (by have := lg (some (1 + ((n / 11 : Nat) : Int) % 6)); omega))) ?_
  have lo : okT (("abcdefghijklmnopqrst" : Str) ++ cutS "uvwxyz" none (some (1 + ((n / 11 : Nat) : Int) % 6))) := by
    have := lg (some (1 + ((n / 11 : Nat) : Int) % 6))
    unfold okT
    rw [add_len, l1]
    omega
  generalize ("abcdefghijklmnopqrst" : Str) ++ cutS "uvwxyz" none (some (1 + ((n / 11 : Nat) : Int) % 6)) = L at lo ⊢
  show S _ _ _ [.fz (.str x), .fz (.int (n : Nat)), .fz (.int ((n / 11 : Nat) : Int)), .fz (.str L)]
  refine q_if (b := decide (x = "a")) (t_test (b_op (E.b (e_var rfl)) (E.b e_str) eq_s rfl)) (fun _ => ?_) fun _ => s_next (n_go ?_)
  · let l : List Str := ["-", "A", "a-b", L, "9", "_", "_a", "a.b", "0a", "a=", "aB"]
    have ok : ∀ y ∈ l, okT y := fun y hy => by
      have h1 : ∀ y ∈ (["-", "A", "a-b", "9", "_", "_a", "a.b", "0a", "a=", "aB"] : List Str), 1 ≤ y.length ∧ y.length ≤ 5000 := by decide +kernel
      by_cases h : y = L
      · rw [h]; exact lo
      · refine h1 y ?_
        simp only [l, List.mem_cons, List.not_mem_nil, or_false, h, false_or] at hy ⊢
        exact hy
    have at_ : atI (l.map PyData.str) ((n : Int) % 11) = _ := at_str m11.1 m11.2
    have os := oT_of ok m11.1 (i := (n : Int) % 11) m11.2
    exact s_ret (e_op (EL.e (el_lst (ds := l.map .str) (a_cons e_str (a_cons e_str (a_cons e_str (a_cons (e_var rfl) (a_cons e_str (a_cons e_str (a_cons e_str (a_cons e_str (a_cons e_str (a_cons e_str (a_cons e_str a_nil))))))))))) (Nat.le_of_ble_eq_true rfl))) (by walk_at "e") (ix_l at_)) (fun v F H st dp => rt v F H _ st ⟨_, rfl, os⟩ dp)
  · let l : List Str := ["--", "A", "a-", L, "a=b", "=", "-a", "a.b", "+", "a,b", "9B"]
    have ok : ∀ y ∈ l, okT y := fun y hy => by
      have h1 : ∀ y ∈ (["--", "A", "a-", "a=b", "=", "-a", "a.b", "+", "a,b", "9B"] : List Str), 1 ≤ y.length ∧ y.length ≤ 5000 := by decide +kernel
      by_cases h : y = L
      · rw [h]; exact lo
      · refine h1 y ?_
        simp only [l, List.mem_cons, List.not_mem_nil, or_false, h, false_or] at hy ⊢
        exact hy
    have at_ : atI (l.map PyData.str) ((n : Int) % 11) = _ := at_str m11.1 m11.2
    have os := oT_of ok m11.1 (i := (n : Int) % 11) m11.2
    exact s_ret (e_op (EL.e (el_lst (ds := l.map .str) (a_cons e_str (a_cons e_str (a_cons e_str (a_cons (e_var rfl) (a_cons e_str (a_cons e_str (a_cons e_str (a_cons e_str (a_cons e_str (a_cons e_str (a_cons e_str a_nil))))))))))) (Nat.le_of_ble_eq_true rfl))) (by walk_at "e") (ix_l at_)) (fun v F H st dp => rt v F H _ st ⟨_, rfl, os⟩ dp)
end

/-! ### the law's good words -/
def wn76 (n : Nat) : List Str := ["0", "1", tS ((n / 5 : Nat) : Int), "99999", tS (((n / 5 : Nat) : Int) * 97)]
def wt76 (n : Nat) : List Str := ["", "9", "_a", "0_z", cutS "_0123456789abcdefgh" none (some (19 - ((n / 5 : Nat) : Int) / 26))]
def ww76 (n : Nat) : Str := sg LE (((n / 5 : Nat) : Int) % 26) ++ itS (wt76 n) ((n : Int) % 5)
def wv76 (W : Str) : List Str := ["-", "7", "_", ("0" : Str) ++ cutS W none (some 19), W]
def wdF (x : Str) (n : Nat) : Str :=
  if x = "n" then itS (wn76 n) ((n : Int) % 5) else if x = "t" then itS ["in", "not"] ((n : Int) % 2)
  else if (decide (x = "a") || decide (0 < (n : Int) % 3)) = true then ww76 n else itS (wv76 (ww76 n)) (((n / 5 : Nat) : Int) % 5)
theorem fit76 {i : Int} (h0 : 0 ≤ i) (h1 : i ≤ 100000) : i.natAbs.log2 < 1920 := log_fit (by omega) (by omega)
theorem wt_len (n : Nat) : ∀ y ∈ wt76 n, y.length ≤ 19 := fun y hy => by
  have h1 : ∀ y ∈ (["", "9", "_a", "0_z"] : List Str), y.length ≤ 19 := by decide +kernel
  have l2 : ("_0123456789abcdefgh" : Str).length = 19 := by decide +kernel
  rcases List.mem_append.mp (show y ∈ (["", "9", "_a", "0_z"] : List Str) ++ [cutS "_0123456789abcdefgh" none (some (19 - ((n / 5 : Nat) : Int) / 26))] from hy) with h | h
  · exact h1 y h
  · rw [List.mem_singleton.mp h]
    exact Nat.le_trans (cutS_len _ _ _) (Nat.le_of_eq l2)
theorem ww_len (n : Nat) : 1 ≤ (ww76 n).length ∧ (ww76 n).length ≤ 20 := by
  have m := md (n : Int) 5 (by decide)
  have := wt_len n _ (itS_mem (xs := wt76 n) m.1 m.2)
  unfold ww76
  rw [add_len, sg_len]
  omega
theorem wv_ok {W : Str} (h : 1 ≤ W.length ∧ W.length ≤ 20) : ∀ y ∈ wv76 W, okT y := fun y hy => by
  have h1 : ∀ y ∈ (["-", "7", "_"] : List Str), 1 ≤ y.length ∧ y.length ≤ 5000 := by decide +kernel
  have l0 : ("0" : Str).length = 1 := by decide +kernel
  have lc := cutS_len W none (some 19)
  rcases List.mem_append.mp (show y ∈ (["-", "7", "_"] : List Str) ++ [("0" : Str) ++ cutS W none (some 19), W] from hy) with h2 | h2
  · exact h1 y h2
  · rcases List.mem_cons.mp h2 with h2 | h2
    · rw [h2]
      unfold okT
      rw [add_len, l0]
      omega
    · rw [List.mem_singleton.mp h2]
      unfold okT
      omega
theorem wn_ok {n : Nat} (hn : n < 1000) : ∀ y ∈ wn76 n, okT y := fun y hy => by
  have h1 : ∀ y ∈ (["0", "1", "99999"] : List Str), 1 ≤ y.length ∧ y.length ≤ 5000 := by decide +kernel
  have t1 := tS_len (fit76 (i := ((n / 5 : Nat) : Int)) (by omega) (by omega))
  have t2 := tS_len (fit76 (i := ((n / 5 : Nat) : Int) * 97) (by omega) (by omega))
  have p1 := tS_pos (n / 5)
  have p2 := tS_pos (n / 5 * 97)
  have e : ((n / 5 * 97 : Nat) : Int) = ((n / 5 : Nat) : Int) * 97 := by omega
  rw [e] at p2
  unfold wn76 at hy
  rcases List.mem_cons.mp hy with h | hy
  · exact h1 y (by rw [h]; decide +kernel)
  rcases List.mem_cons.mp hy with h | hy
  · exact h1 y (by rw [h]; decide +kernel)
  rcases List.mem_cons.mp hy with h | hy
  · rw [h]; exact ⟨p1, by omega⟩
  rcases List.mem_cons.mp hy with h | hy
  · exact h1 y (by rw [h]; decide +kernel)
  · rw [List.mem_singleton.mp hy]; exact ⟨p2, by omega⟩
theorem wdF_ok (x : Str) {n : Nat} (hn : n < 1000) : okT (wdF x n) := by
  unfold wdF
  have m5 := md (n : Int) 5 (by decide)
  have m2 := md (n : Int) 2 (by decide)
  have m6 := md ((n / 5 : Nat) : Int) 5 (by decide)
  have wl := ww_len n
  split
  · exact oT_of (wn_ok hn) m5.1 m5.2
  · split
    · have h1 : ∀ y ∈ (["in", "not"] : List Str), 1 ≤ y.length ∧ y.length ≤ 5000 := by decide +kernel
      exact oT_of h1 m2.1 m2.2
    · split
      · unfold okT; omega
      · exact oT_of (wv_ok wl) m6.1 m6.2
section
variable {P : Program} {w : World} {K : PySem.W.Frag} {mg : Str → Option Value} {base : Heap} {f : Addr} {fd : FuncData} {Tb : List Addr} {k : Nat}
def R_word : List PyData → PyData → Prop := fun ds d => ∃ (x : Str) (n : Nat), ds = [.str x, .int (n : Nat)] ∧ n < 1000 ∧ d = .str (wdF x n)
theorem ok_word (Fn : Fun K "_law_word" "_law_word" s_l_law_word f fd) (hm : mg "_law_word" = some (.ref f)) (hb : Binds K fd ["kind", "draw"] []) (Z : Zb mg) :
    Df P w K mg base 1 "_law_word" ["kind", "draw"] (spD K Tb R_word) := by
  refine df_D Fn sc_l_law_word hm hb (fun ds d h => by obtain ⟨_, _, rfl, _⟩ := h; rfl) fun cdv A outer s H Ek hr => ⟨_, (pss_cons (ps_set (i := 2) sc_l_law_word.nd rfl (by first | exact .inl rfl | exact .inr rfl) (pe_op op_fdiv (pe_callTy uInt (by rfl) Z.int (by decide +kernel) (pa_cons (pv 1) pa_nil)) pe_int))
      (pss_cons (ps_if (pt_cmpR (uEqK K hr.units) (pv 0) pe_str (nomark _)) (pss_one (ps_ret (pe_ix (ix_seqK K) (pe_lst (pa_cons pe_str (pa_cons pe_str (pa_cons (pe_callTy uStr (by rfl) Z.str (by decide +kernel) (pa_cons (pv 2) pa_nil)) (pa_cons pe_str (pa_cons (pe_callTy uStr (by rfl) Z.str (by decide +kernel) (pa_cons (pe_op uMul (pv 2) pe_int) pa_nil)) pa_nil)))))) (pe_op op_mod (pe_callTy uInt (by rfl) Z.int (by decide +kernel) (pa_cons (pv 1) pa_nil)) pe_int) (fun _ _ => rfl)))) pss_nil)
      (pss_cons (ps_if (pt_cmpR (uEqK K hr.units) (pv 0) pe_str (nomark _)) (pss_one (ps_ret (pe_ix (ix_seqK K) (pe_lst (pa_cons pe_str (pa_cons pe_str pa_nil))) (pe_op op_mod (pe_callTy uInt (by rfl) Z.int (by decide +kernel) (pa_cons (pv 1) pa_nil)) pe_int) (fun _ _ => rfl)))) pss_nil)
      (pss_cons (ps_set (i := 3) sc_l_law_word.nd rfl (by first | exact .inl rfl | exact .inr rfl) pe_str)
      (pss_cons (ps_set (i := 4) sc_l_law_word.nd rfl (by first | exact .inl rfl | exact .inr rfl) (pe_op (uAddK K) (pe_ix (ix_seqK K) (pv 3) (pe_op op_mod (pe_callTy uInt (by rfl) Z.int (by decide +kernel) (pa_cons (pv 2) pa_nil)) pe_int) (fun _ _ => rfl)) (pe_ix (ix_seqK K) (pe_lst (pa_cons pe_str (pa_cons pe_str (pa_cons pe_str (pa_cons pe_str (pa_cons (pe_slice (uSlK K) pe_str po_none (po_some (pe_op op_sub pe_int (pe_op op_fdiv (pv 2) pe_int)))) pa_nil)))))) (pe_op op_mod (pe_callTy uInt (by rfl) Z.int (by decide +kernel) (pa_cons (pv 1) pa_nil)) pe_int) (fun _ _ => rfl))))
      (pss_cons (ps_if (PW.pt (pw_or (pt_cmpR (uEqK K hr.units) (pv 0) pe_str (nomark _)) (pw_or1 (pt_cmpR op_gt (pe_op op_mod (pe_callTy uInt (by rfl) Z.int (by decide +kernel) (pa_cons (pv 1) pa_nil)) pe_int) pe_int (nomark _))))) (pss_one (ps_ret (pv 4))) pss_nil)
      (pss_one (ps_ret (pe_ix (ix_seqK K) (pe_lst (pa_cons pe_str (pa_cons pe_str (pa_cons pe_str (pa_cons (pe_op (uAddK K) pe_str (pe_slice (uSlK K) (pv 4) po_none (po_some pe_int))) (pa_cons (pv 4) pa_nil)))))) (pe_op op_mod (pe_callTy uInt (by rfl) Z.int (by decide +kernel) (pa_cons (pv 2) pa_nil)) pe_int) (fun _ _ => rfl)))))))))),  fun ds d F0 H0 Q r rt => ?_⟩
  obtain ⟨x, n, rfl, hn, rfl⟩ := r
  have m5 := md (n : Int) 5 (by decide)
  have m2 := md (n : Int) 2 (by decide)
  have m26 := md ((n / 5 : Nat) : Int) 26 (by decide)
  have m6 := md ((n / 5 : Nat) : Int) 5 (by decide)
  have f1 := fit76 (i := ((n / 5 : Nat) : Int)) (by omega) (by omega)
  have f2 := fit76 (i := ((n / 5 : Nat) : Int) * 97) (by omega) (by omega)
  have e5 : ((n : Int) / 5) = ((n / 5 : Nat) : Int) := by omega
  refine q_asg (d := .int ((n / 5 : Nat) : Int)) (by rw [← e5]; walk_at "e") ?_
  show S _ _ _ [.fz (.str x), .fz (.int (n : Nat)), .fz (.int ((n / 5 : Nat) : Int)), .un, .un]
  unfold wdF at rt
  refine q_if (b := decide (x = "n")) (t_test (b_op (E.b (e_var rfl)) (E.b e_str) eq_s rfl)) (fun z => ?_) fun z => s_next (n_go ?_)
  · rw [if_pos (of_decide_eq_true z)] at rt
    have at_ : atI ((wn76 n).map PyData.str) ((n : Int) % 5) = _ := at_str m5.1 m5.2
    exact s_ret (e_op (EL.e (el_lst (ds := (wn76 n).map .str) (a_cons e_str (a_cons e_str (a_cons (b_cb (ab_cons (E.b (e_var rfl)) ab_nil) (str_i f1) rfl) (a_cons e_str (a_cons (b_cb (ab_cons (E.b (e_op (e_var rfl) e_int (mul_i (.inr ⟨by omega, by omega⟩)))) ab_nil) (str_i f2) rfl) a_nil))))) (Nat.le_of_ble_eq_true rfl))) (by walk_at "e") (ix_l at_)) rt
  rw [if_neg (of_decide_eq_false z)] at rt
  refine q_if (b := decide (x = "t")) (t_test (b_op (E.b (e_var rfl)) (E.b e_str) eq_s rfl)) (fun z => ?_) fun z => s_next (n_go ?_)
  · rw [if_pos (of_decide_eq_true z)] at rt
    have at_ : atI ((["in", "not"] : List Str).map PyData.str) ((n : Int) % 2) = _ := at_str m2.1 m2.2
    exact s_ret (e_op (EL.e (el_lst (ds := (["in", "not"] : List Str).map .str) (a_cons e_str (a_cons e_str a_nil)) (Nat.le_of_ble_eq_true rfl))) (by walk_at "e") (ix_l at_)) rt
  rw [if_neg (of_decide_eq_false z)] at rt
  have ll : LE.cps.toList.length = 26 := by decide +kernel
  have lz : LE.length ≤ 100000 := by decide +kernel
  have l2 : ("_0123456789abcdefgh" : Str).length ≤ 100000 := by decide +kernel
  have il : atI LE.cps.toList (((n / 5 : Nat) : Int) % 26) = _ := at_sg m26.1 (by omega)
  have it : atI ((wt76 n).map PyData.str) ((n : Int) % 5) = _ := at_str m5.1 m5.2
  have wtl := wt_len n _ (itS_mem (xs := wt76 n) m5.1 m5.2)
  refine q_asg (d := .str LE) e_str ?_
  refine q_asg (d := .str (ww76 n)) (e_op (e_op (e_var rfl) (by walk_at "e") (ix_s lz il)) (e_op (EL.e (el_lst (ds := (wt76 n).map .str) (a_cons e_str (a_cons e_str (a_cons e_str (a_cons e_str (a_cons (e_slS e_str l2 o_none (o_some (e_op e_int (e_op (e_var rfl) e_int (div_i (by decide) (by decide))) sub_i))) a_nil))))) (Nat.le_of_ble_eq_true rfl))) (by walk_at "e") (ix_l it)) (add_s (by show 1 + _ ≤ _; omega))) ?_
  have wl := ww_len n
  generalize ww76 n = W at rt wl ⊢
  show S _ _ _ [.fz (.str x), .fz (.int (n : Nat)), .fz (.int ((n / 5 : Nat) : Int)), .fz (.str LE), .fz (.str W)]
  refine q_if (b := decide (x = "a") || decide (0 < (n : Int) % 3)) (t_or (t_test (b_op (E.b (e_var rfl)) (E.b e_str) eq_s rfl)) fun _ => t_test (b_op (E.b (by walk_at "e")) (E.b e_int) gt_i rfl)) (fun z => ?_) fun z => s_next (n_go ?_)
  · rw [if_pos z] at rt
    exact s_ret (e_var rfl) rt
  · rw [if_neg (by rw [z]; decide)] at rt
    have l0 : ("0" : Str).length = 1 := by decide +kernel
    have lc := cutS_len W none (some 19)
    have at_ : atI ((wv76 W).map PyData.str) (((n / 5 : Nat) : Int) % 5) = _ := at_str m6.1 m6.2
    exact s_ret (e_op (EL.e (el_lst (ds := (wv76 W).map .str) (a_cons e_str (a_cons e_str (a_cons e_str (a_cons (e_op e_str (e_slS (e_var rfl) (by omega) o_none (o_some e_int)) (add_s (by omega))) (a_cons (e_var rfl) a_nil))))) (Nat.le_of_ble_eq_true rfl))) (by walk_at "e") (ix_l at_)) rt
end

/-! ### the first word -/
def KN1 : List Str := ["week", "lookback", "store", "pager", "person", "schedule", "policy", "window", "holdback", "rules"]
def KN2 : List Str := ["route", "layer", "span", "standin", "ring", "match", "group", "wait", "interval", "again"]
def KN3 : List Str := ["mute", "by", "source", "target", "equal", "record", "alert", "label", "expr", "route"]
def KN : List Str := KN1 ++ KN2 ++ KN3
theorem kn_len : KN.length = 30 := by decide +kernel
theorem kn_in : ∀ y ∈ KN, y = "expr" ∨ y = "route" ∨ y ∈ TB76.map (·.1) := by decide +kernel
theorem kn_ok : ∀ y ∈ KN, okW y := fun y hy => by
  rcases kn_in y hy with h | h | h
  · exact .inl h
  · exact .inr (.inl h)
  · obtain ⟨p, hp, rfl⟩ := List.mem_map.mp h
    exact .inr (.inr (.inl ⟨p.2, hp⟩))
section
variable {P : Program} {w : World} {K : PySem.W.Frag} {mg : Str → Option Value} {base : Heap} {f : Addr} {fd : FuncData} {Tb : List Addr} {k : Nat}
theorem e_catL {g : Gd} {G : List Sl} {ta tb : TE} {xs ys : List Str} (ha : E g ta G (sL xs)) (hb : E g tb G (sL ys)) (hl : xs.length + ys.length ≤ 100000) : E g (tOp (rAddU g.K) ta tb) G (sL (xs ++ ys)) := by
  have e : sL (xs ++ ys) = .list (xs.map .str ++ ys.map .str) := by unfold sL; rw [List.map_append]
  rw [e]
  exact EL.e (el_op ha hb (add_l (by rw [List.length_map, List.length_map]; exact hl)))
def A_fst : List PyData → Prop := fun ds => ∃ D : List Int, ds = [iL D] ∧ 2 ≤ D.length
def R_fst : List PyData → PyData → Prop := fun _ d => ∃ x : Str, d = .str x ∧ okW x
theorem ok_fst (Fn : Fun K "_law_first" "_law_first" s_l_law_first f fd) (hm : mg "_law_first" = some (.ref f)) (hb : Binds K fd ["draws"] []) (Z : Zb mg) :
    Df P w K mg base 1 "_law_first" ["draws"] (spA K Tb A_fst R_fst) := by
  refine df_A Fn sc_l_law_first hm hb (fun ds h => by obtain ⟨_, rfl, _⟩ := h; rfl) fun cdv A outer s H Ek hr => ⟨_, (pss_cons (ps_set (i := 1) sc_l_law_first.nd rfl (by first | exact .inl rfl | exact .inr rfl) (pe_lst (pa_cons pe_str (pa_cons pe_str (pa_cons pe_str (pa_cons pe_str (pa_cons pe_str (pa_cons pe_str (pa_cons pe_str (pa_cons pe_str (pa_cons pe_str (pa_cons pe_str pa_nil))))))))))))
      (pss_cons (ps_set (i := 1) sc_l_law_first.nd rfl (by first | exact .inl rfl | exact .inr rfl) (pe_op (uAddK K) (pv 1) (pe_lst (pa_cons pe_str (pa_cons pe_str (pa_cons pe_str (pa_cons pe_str (pa_cons pe_str (pa_cons pe_str (pa_cons pe_str (pa_cons pe_str (pa_cons pe_str (pa_cons pe_str pa_nil)))))))))))))
      (pss_cons (ps_set (i := 1) sc_l_law_first.nd rfl (by first | exact .inl rfl | exact .inr rfl) (pe_op (uAddK K) (pv 1) (pe_lst (pa_cons pe_str (pa_cons pe_str (pa_cons pe_str (pa_cons pe_str (pa_cons pe_str (pa_cons pe_str (pa_cons pe_str (pa_cons pe_str (pa_cons pe_str (pa_cons pe_str pa_nil)))))))))))))
      (pss_cons (ps_set (i := 2) sc_l_law_first.nd rfl (by first | exact .inl rfl | exact .inr rfl) (pe_lst (pa_cons pe_str (pa_cons pe_str (pa_cons pe_str (pa_cons pe_str (pa_cons pe_str (pa_cons pe_str (pa_cons pe_str (pa_cons pe_str (pa_cons pe_str (pa_cons pe_str (pa_cons pe_str pa_nil)))))))))))))
      (pss_cons (ps_if (pt_cmpR (uEqK K hr.units) (pe_op op_mod (pe_ix (ix_seqK K) (pv 0) pe_int (fun _ _ => rfl)) pe_int) pe_int (nomark _)) (pss_one (ps_ret (pe_ix (ix_seqK K) (pv 2) (pe_op op_mod (pe_ix (ix_seqK K) (pv 0) pe_int (fun _ _ => rfl)) pe_int) (fun _ _ => rfl)))) pss_nil)
      (pss_one (ps_ret (pe_ix (ix_seqK K) (pv 1) (pe_op op_mod (pe_ix (ix_seqK K) (pv 0) pe_int (fun _ _ => rfl)) pe_int) (fun _ _ => rfl))))))))),  fun ds F0 H0 Q r rt => ?_⟩
  obtain ⟨D, rfl, hD⟩ := r
  have a0 : atI (D.map PyData.int) 0 = _ := at_int (by omega) (by omega)
  have a1 : atI (D.map PyData.int) 1 = _ := at_int (by omega) (by omega)
  refine q_asg (d := sL KN1) (EL.e (el_lst (ds := KN1.map .str) (a_cons e_str (a_cons e_str (a_cons e_str (a_cons e_str (a_cons e_str (a_cons e_str (a_cons e_str (a_cons e_str (a_cons e_str (a_cons e_str a_nil)))))))))) (Nat.le_of_ble_eq_true rfl))) ?_
  refine q_asg (d := sL (KN1 ++ KN2)) (e_catL (e_var rfl) (EL.e (el_lst (ds := KN2.map .str) (a_cons e_str (a_cons e_str (a_cons e_str (a_cons e_str (a_cons e_str (a_cons e_str (a_cons e_str (a_cons e_str (a_cons e_str (a_cons e_str a_nil)))))))))) (Nat.le_of_ble_eq_true rfl))) (by decide)) ?_
  refine q_asg (d := sL KN) (e_catL (e_var rfl) (EL.e (el_lst (ds := KN3.map .str) (a_cons e_str (a_cons e_str (a_cons e_str (a_cons e_str (a_cons e_str (a_cons e_str (a_cons e_str (a_cons e_str (a_cons e_str (a_cons e_str a_nil)))))))))) (Nat.le_of_ble_eq_true rfl))) (by decide)) ?_
  refine q_asg (d := sL MS76) (EL.e (el_lst (ds := MS76.map .str) (a_cons e_str (a_cons e_str (a_cons e_str (a_cons e_str (a_cons e_str (a_cons e_str (a_cons e_str (a_cons e_str (a_cons e_str (a_cons e_str (a_cons e_str a_nil))))))))))) (Nat.le_of_ble_eq_true rfl))) ?_
  have kl := kn_len
  have ko := kn_ok
  have ml : MS76.length = 11 := rfl
  have mo : ∀ y ∈ MS76, okW y := fun y hy => .inr (.inr (.inr hy))
  generalize KN = KK at kl ko ⊢
  generalize MS76 = MM at ml mo ⊢
  show S _ _ _ [.fz (iL D), .fz (sL KK), .fz (sL MM)]
  have m30 := md (itI D 1) 30 (by decide)
  have m11 := md (itI D 1) 11 (by decide)
  refine q_if (b := decide (itI D 0 % 9 = 8)) (t_test (b_op (E.b (e_op (e_op (e_var rfl) e_int (ix_l a0)) e_int (mod_i (by decide)))) (E.b e_int) eq_i rfl)) (fun _ => ?_) fun _ => s_next (n_go ?_)
  · have at_ : atI (MM.map PyData.str) (itI D 1 % 11) = _ := at_str m11.1 (by omega)
    have os := mo _ (itS_mem (xs := MM) m11.1 (by omega))
    exact s_ret (e_op (e_var rfl) (e_op (e_op (e_var rfl) e_int (ix_l a1)) e_int (mod_i (by decide))) (ix_l at_)) (fun v F H st dp => rt v F H _ st ⟨_, rfl, os⟩ dp)
  · have at_ : atI (KK.map PyData.str) (itI D 1 % 30) = _ := at_str m30.1 (by omega)
    have os := ko _ (itS_mem (xs := KK) m30.1 (by omega))
    exact s_ret (e_op (e_var rfl) (e_op (e_op (e_var rfl) e_int (ix_l a1)) e_int (mod_i (by decide))) (ix_l at_)) (fun v F H st dp => rt v F H _ st ⟨_, rfl, os⟩ dp)
end

/-! ### the law's lists -/
def A_list : List PyData → Prop := fun ds => ∃ c : Int, ds = [.int c]
def R_list : List PyData → PyData → Prop := fun _ d => ∃ (x : Str) (r : List Str), d = sL (x :: r) ∧ okW x ∧ r.length ≤ 100 ∧ ∀ t ∈ r, okT t
theorem fur_sg (x : Str) : furF x = "" ∨ ∃ c, furF x = ⟨#[c]⟩ := by
  have h1 : ("v" : Str) = ⟨#[118]⟩ := by decide +kernel
  have h2 : ("a" : Str) = ⟨#[97]⟩ := by decide +kernel
  unfold furF
  split
  · exact .inr ⟨118, h1⟩
  · split
    · exact .inr ⟨97, h2⟩
    · exact .inl rfl
theorem fur_mul (x : Str) (n : Nat) : (mulS (furF x) (n : Int)).length ≤ n := by
  rcases fur_sg x with h | ⟨c, h⟩
  · rw [h, mul_emp]
    have : ("" : Str).length = 0 := by decide +kernel
    omega
  · rw [h, ← cps_len76, mul_sg, List.length_replicate]
    exact Nat.le_refl n
theorem ls_le : ∀ p ∈ LS76, p.2.length ≤ 4 := by decide +kernel
theorem lsh_le {x sh : Str} (h : lshF x = some sh) : sh.length ≤ 4 := ls_le _ (PySem.mem_of_lookup h)
section
variable {g : Gd} {G : List Sl} {te tb : TE} {ds : List PyData} {i : Nat} {D : Ends} {Pp : PyData → Prop}
theorem s_setIP {k : Int} {n : Nat} (h : G[i]? = some (.ow ds)) (he : EP g te G Pp) (hb : E g tb G (.int k)) (hk : ixN ds.length k = some n) (kk : ∀ d, Pp d → N g D.nx (G.set i (.ow (ds.set n d)))) : S g (tAsg te (gSub (tVar i) tb rSetL)) D G := fun σ F H hh => by
  obtain ⟨o, e, p, vs, ev, h0, hF, hH, hd⟩ := hh.at_ h
  subst ev
  refine he σ F H hh _ fun v F1 H1 d s1 pd d1 => ⟨.ref p, e, hb σ F1 H1 (hh.mono s1) _ fun u F2 H2 s2 d2 => ?_⟩
  cases d2
  have ss := s1.trans s2
  exact ⟨p, vs, k, n, rfl, rfl, ss.h.lst hH, by rw [dps_len hd]; exact hk, kk d pd σ F2 _ (own_set hh h e h0 hF hH ss (dps_set (s2.f.dp d v d1) n (ss.f.dps ds vs hd)))⟩
end
def wlF (y : Str) (D : List Int) : List Str := (List.range y.length).map fun k => wdF (sg y (0 + (k : Nat))) (itI D (7 + (0 + (k : Nat)))).toNat
section
variable {P : Program} {w : World} {K : PySem.W.Frag} {mg : Str → Option Value} {base : Heap} {f : Addr} {fd : FuncData} {Tb : List Addr} {k : Nat}
set_option maxHeartbeats 8000000 in
theorem ok_list (Fn : Fun K "_law_list" "_law_list" s_l_law_list f fd) (hm : mg "_law_list" = some (.ref f)) (hb : Binds K fd ["cell"] []) (Z : Zb mg)
    (D_l_law_draws : Df P w K mg base 1 "_law_draws" ["cell", "many"] (spD K Tb R_draws)) (D_l_law_first : Df P w K mg base 1 "_law_first" ["draws"] (spA K Tb A_fst R_fst))
    (D_l_law_shape : Df P w K mg base 1 "_law_shape" ["word"] (spD K Tb R_shp)) (D_l_law_further : Df P w K mg base 1 "_law_further" ["word"] (spD K Tb R_fur))
    (D_l_law_word : Df P w K mg base 1 "_law_word" ["kind", "draw"] (spD K Tb R_word)) (D_l_law_wrong : Df P w K mg base 1 "_law_wrong" ["kind", "draw"] (spA K Tb A_wd R_wd)) :
    Df P w K mg base 2 "_law_list" ["cell"] (spA K Tb A_list R_list) := by
  refine df_A Fn sc_l_law_list hm hb (fun ds h => by obtain ⟨_, rfl⟩ := h; rfl) fun cdv A outer s H Ek hr => ⟨_, (pss_cons (ps_set (i := 1) sc_l_law_list.nd rfl (by first | exact .inl rfl | exact .inr rfl) (pe_df D_l_law_draws hr (by first | decide | exact Nat.le_refl _ | omega) (by rfl) (pa_cons (pv 0) (pa_cons pe_int pa_nil))))
      (pss_cons (ps_set (i := 2) sc_l_law_list.nd rfl (by first | exact .inl rfl | exact .inr rfl) (pe_df D_l_law_first hr (by first | decide | exact Nat.le_refl _ | omega) (by rfl) (pa_cons (pv 1) pa_nil)))
      (pss_cons (ps_set (i := 3) sc_l_law_list.nd rfl (by first | exact .inl rfl | exact .inr rfl) (pe_df D_l_law_shape hr (by first | decide | exact Nat.le_refl _ | omega) (by rfl) (pa_cons (pv 2) pa_nil)))
      (Evl.pss_cut (ps_if (pt_cmpR uIsN (pv 3) pe_non (nomark _)) (pss_one (ps_set (i := 3) sc_l_law_list.nd rfl (by first | exact .inl rfl | exact .inr rfl) pe_str)) pss_nil)
      (Evl.pss_cut (ps_if (PW.pt (pw_and (pt_cmpR (uEqK K hr.units) (pv 2) pe_str (nomark _)) (pw_and1 (pt_cmpR (uEqK K hr.units) (pe_op op_mod (pe_ix (ix_seqK K) (pv 1) pe_int (fun _ _ => rfl)) pe_int) pe_int (nomark _))))) (pss_one (ps_set (i := 3) sc_l_law_list.nd rfl (by first | exact .inl rfl | exact .inr rfl) pe_str)) pss_nil)
      (Evl.pss_cut (ps_if (pt_cmpR (uEqK K hr.units) (pv 2) pe_str (nomark _)) (pss_one (ps_set (i := 3) sc_l_law_list.nd rfl (by first | exact .inl rfl | exact .inr rfl) (pe_slice (uSlK K) pe_str po_none (po_some (pe_op op_mod (pe_ix (ix_seqK K) (pv 1) pe_int (fun _ _ => rfl)) pe_int))))) (pss_one (ps_if (pt_cmpR (uEqK K hr.units) (pe_op op_mod (pe_ix (ix_seqK K) (pv 1) pe_int (fun _ _ => rfl)) pe_int) pe_int (nomark _)) (pss_one (ps_set (i := 3) sc_l_law_list.nd rfl (by first | exact .inl rfl | exact .inr rfl) (pe_op (uAddK K) (pv 3) (pe_ix (ix_seqK K) pe_str (pe_op op_mod (pe_ix (ix_seqK K) (pv 1) pe_int (fun _ _ => rfl)) pe_int) (fun _ _ => rfl))))) (pss_one (ps_if (pt_cmpR (uEqK K hr.units) (pe_op op_mod (pe_ix (ix_seqK K) (pv 1) pe_int (fun _ _ => rfl)) pe_int) pe_int (nomark _)) (pss_one (ps_set (i := 3) sc_l_law_list.nd rfl (by first | exact .inl rfl | exact .inr rfl) (pe_slice (uSlK K) (pv 3) po_none (po_some (pe_un un_neg pe_int))))) (pss_one (ps_set (i := 3) sc_l_law_list.nd rfl (by first | exact .inl rfl | exact .inr rfl) (pe_op (uAddK K) (pv 3) (pe_op uMul (pe_df D_l_law_further hr (by first | decide | exact Nat.le_refl _ | omega) (by rfl) (pa_cons (pv 2) pa_nil)) (pe_op op_mod (pe_ix (ix_seqK K) (pv 1) pe_int (fun _ _ => rfl)) pe_int))))))))))
      (pss_cons (ps_set (i := 4) sc_l_law_list.nd rfl (by first | exact .inl rfl | exact .inr rfl) (pe_op (uAddK K) (pe_lst (pa_cons (pv 2) pa_nil)) (pe_lc (own := [("k", 6)]) (by rfl) sc_l_law_list.nd (pi_range1 (by rfl) Z.range (pa_cons (pe_callB (uLenK K) (by rfl) Z.len (by decide +kernel) (pa_cons (pv 3) pa_nil)) pa_nil)) (blkOk_by (own := [("k", 6)]) (N := N_l_law_list) (sc := defScope s_l_law_list) (by decide +kernel)) (fun _ _ _ _ _ => (pg_name (i := 6) sc_l_law_list.nd rfl (by first | exact .inl rfl | exact .inr rfl))) (fun _ _ _ _ _ => pts_nil) (fun _ _ _ _ _ => (pe_df D_l_law_word hr (by first | decide | exact Nat.le_refl _ | omega) (by rfl) (pa_cons (pe_ix (ix_seqK K) (pv 3) (pv 6) (fun _ _ => rfl)) (pa_cons (pe_ix (ix_seqK K) (pv 1) (pe_op (uAddK K) pe_int (pv 6)) (fun _ _ => rfl)) pa_nil)))))))
      (Evl.pss_cut (ps_if (PW.pt (pw_and (pt_cmpR (uEqK K hr.units) (pe_op op_mod (pe_ix (ix_seqK K) (pv 1) pe_int (fun _ _ => rfl)) pe_int) pe_int (nomark _)) (pw_and1 (pt_cmpR op_gt (pe_callB (uLenK K) (by rfl) Z.len (by decide +kernel) (pa_cons (pv 3) pa_nil)) pe_int (nomark _))))) (pss_cons (ps_set (i := 5) sc_l_law_list.nd rfl (by first | exact .inl rfl | exact .inr rfl) (pe_op op_mod (pe_ix (ix_seqK K) (pv 1) pe_int (fun _ _ => rfl)) (pe_callB (uLenK K) (by rfl) Z.len (by decide +kernel) (pa_cons (pv 3) pa_nil))))
      (pss_one (ps_asg (pe_df D_l_law_wrong hr (by first | decide | exact Nat.le_refl _ | omega) (by rfl) (pa_cons (pe_ix (ix_seqK K) (pv 3) (pv 5) (fun _ _ => rfl)) (pa_cons (pe_ix (ix_seqK K) (pv 1) pe_int (fun _ _ => rfl)) pa_nil))) (pg_sub (pv 4) (pe_op (uAddK K) (pv 5) pe_int) set_list)))) pss_nil)
      (pss_one (ps_ret (pv 4))))))))))),  fun ds F0 H0 Q r rt => ?_⟩
  obtain ⟨c, rfl⟩ := r
  refine q_asg (d := iL (draws c 30)) (e_call (ds := [.int c, .int 30]) (by walk_at "e") ⟨c, 30, rfl, by decide, rfl⟩) ?_
  have dl := draws_len c 30
  have dm : ∀ z ∈ draws c 30, 0 ≤ z ∧ z < 1000 := fun z hz => draws_mem hz
  generalize draws c 30 = D at dl dm ⊢
  have aD : ∀ j : Int, 0 ≤ j → j < 30 → atI (D.map PyData.int) j = some (.int (itI D j)) := fun j h0 h1 => at_int h0 (by omega)
  have bD : ∀ j : Int, 0 ≤ j → j < 30 → 0 ≤ itI D j ∧ itI D j < 1000 := fun j h0 h1 => dm _ (itI_mem h0 (by omega))
  refine q_asgP (P := R_fst [iL D]) (p_call (ds := [iL D]) (a_cons (e_var rfl) a_nil) ⟨D, rfl, by omega⟩) fun d hd => ?_
  obtain ⟨x, rfl, okx⟩ := hd
  refine q_asg (d := osD (lshF x)) (e_call (ds := [.str x]) (a_cons (e_var rfl) a_nil) ⟨x, rfl, rfl⟩) ?_
  show S _ _ _ [.fz (.int c), .fz (iL D), .fz (.str x), .fz (osD (lshF x)), .un, .un, .un]
  refine s_cutA (α := Str) (fun y => [.fz (.int c), .fz (iL D), .fz (.str x), .fz (.str y), .un, .un, .un]) (fun y => y.length ≤ 4) ?_ fun y0 hy0 => ?_
  · cases hs : lshF x with
    | none => exact s_if (b := isND (osD none)) (t_test (b_op (E.b (e_var rfl)) (E.b e_non) is_n rfl)) (fun _ => s_asg (d := .str "an") e_str (n_end "an" (by decide +kernel) (by walk_at "w"))) fun z => by cases z
    | some sh =>
      refine s_if (b := isND (osD (some sh))) (t_test (b_op (E.b (e_var rfl)) (E.b e_non) is_n rfl)) (fun z => by cases z) fun _ => ?_
      show S _ _ _ [.fz (.int c), .fz (iL D), .fz (.str x), .fz (.str sh), .un, .un, .un]
      exact s_next (n_end sh (lsh_le hs) (by walk_at "w"))
  refine s_cutA (α := Str) (fun y => [.fz (.int c), .fz (iL D), .fz (.str x), .fz (.str y), .un, .un, .un]) (fun y => y.length ≤ 4) ?_ fun y1 hy1 => ?_
  · exact s_if (b := decide (x = "route") && decide (itI D 2 % 2 = 0)) (t_and (t_test (b_op (E.b (e_var rfl)) (E.b e_str) eq_s rfl)) fun _ => t_test (b_op (E.b (e_op (e_op (e_var rfl) e_int (ix_l (aD 2 (by decide) (by decide)))) e_int (mod_i (by decide)))) (E.b e_int) eq_i rfl)) (fun _ => s_asg (d := .str "n") e_str (n_end "n" (by decide +kernel) (by walk_at "w"))) fun _ => s_next (n_end y0 hy0 (by walk_at "w"))
  have hy1 : y1.length ≤ 4 := hy1
  have m5 := md (itI D 2) 5 (by decide)
  have m3 := md (itI D 2) 3 (by decide)
  have m7 := md (itI D 2) 7 (by decide)
  refine s_cutA (α := Str) (fun y => [.fz (.int c), .fz (iL D), .fz (.str x), .fz (.str y), .un, .un, .un]) (fun y => y.length ≤ 12) ?_ fun y hy => ?_
  · have i2 : ∀ {G : List Sl} {g : Gd}, G[1]? = some (.fz (iL D)) → E g (tOp (rIx g.K) (tVar 1) (tC (.int 2))) G (.int (itI D 2)) := fun h => e_op (e_var h) e_int (ix_l (aD 2 (by decide) (by decide)))
    refine s_if (b := decide (x = "expr")) (t_test (b_op (E.b (e_var rfl)) (E.b e_str) eq_s rfl)) (fun _ => ?_) fun _ => ?_
    · have l4 : ("avnt" : Str).length = 4 := by decide +kernel
      have := cutS_len "avnt" none (some (itI D 2 % 5))
      exact s_asg (d := .str (cutS "avnt" none (some (itI D 2 % 5)))) (e_slS e_str (by rw [l4]; decide) o_none (o_some (e_op (i2 rfl) e_int (mod_i (by decide))))) (n_end (cutS "avnt" none (some (itI D 2 % 5))) (by show (cutS "avnt" none _).length ≤ 12; omega) (by walk_at "w"))
    refine s_if (b := decide (itI D 3 % 5 = 1)) (t_test (b_op (E.b (e_op (e_op (e_var rfl) e_int (ix_l (aD 3 (by decide) (by decide)))) e_int (mod_i (by decide)))) (E.b e_int) eq_i rfl)) (fun _ => ?_) fun _ => ?_
    · have l3 : ("anv" : Str).length = 3 := by decide +kernel
      have c3 : ("anv" : Str).cps.toList.length = 3 := by decide +kernel
      have ia : atI ("anv" : Str).cps.toList (itI D 2 % 3) = _ := at_sg m3.1 (by omega)
      exact s_asg (d := .str (y1 ++ sg "anv" (itI D 2 % 3))) (e_op (e_var rfl) (e_op e_str (e_op (i2 rfl) e_int (mod_i (by decide))) (ix_s (by rw [l3]; decide) ia)) (add_s (by show _ + 1 ≤ _; omega))) (n_end (y1 ++ sg "anv" (itI D 2 % 3)) (by show (y1 ++ sg "anv" _).length ≤ 12; rw [add_len, sg_len]; omega) (by walk_at "w"))
    refine s_if (b := decide (itI D 3 % 5 = 2)) (t_test (b_op (E.b (e_op (e_op (e_var rfl) e_int (ix_l (aD 3 (by decide) (by decide)))) e_int (mod_i (by decide)))) (E.b e_int) eq_i rfl)) (fun _ => ?_) fun _ => ?_
    · have := cutS_len y1 none (some (-1))
      exact s_asg (d := .str (cutS y1 none (some (-1)))) (e_slS (e_var rfl) (by omega) o_none (o_some (e_neg e_int))) (n_end (cutS y1 none (some (-1))) (by show (cutS y1 none _).length ≤ 12; omega) (by walk_at "w"))
    · have e7 : itI D 2 % 7 = (((itI D 2 % 7).toNat : Nat) : Int) := by omega
      have fm := fur_mul x (itI D 2 % 7).toNat
      rw [← e7] at fm
      have fl : (furF x).length ≤ 1 := by
        rcases fur_sg x with h | ⟨c, h⟩ <;> rw [h]
        · decide +kernel
        · exact Nat.le_refl 1
      exact s_asg (d := .str (y1 ++ mulS (furF x) (itI D 2 % 7))) (e_op (e_var rfl) (e_op (e_call (ds := [.str x]) (a_cons (e_var rfl) a_nil) ⟨x, rfl, rfl⟩) (e_op (i2 rfl) e_int (mod_i (by decide))) (mul_s (by omega) (by omega) (by omega))) (add_s (by omega))) (n_end (y1 ++ mulS (furF x) (itI D 2 % 7)) (by show (y1 ++ mulS _ _).length ≤ 12; rw [add_len]; omega) (by walk_at "w"))
  have hy : y.length ≤ 12 := hy
  have yz : y.length ≤ 100000 := by omega
  have wl : (wlF y D).length = y.length := by unfold wlF; rw [List.length_map, List.length_range]
  have nn : ∀ j : Nat, j < y.length → ((itI D (7 + (0 + (j : Int)))).toNat : Int) = itI D (7 + (0 + (j : Int))) ∧ (itI D (7 + (0 + (j : Int)))).toNat < 1000 := fun j hj => by
    have := bD (7 + (0 + (j : Int))) (by omega) (by omega)
    omega
  have wo : ∀ t ∈ wlF y D, okT t := fun t ht => by
    unfold wlF at ht
    obtain ⟨j, hj, rfl⟩ := List.mem_map.mp ht
    exact wdF_ok _ (nn j (List.mem_range.mp hj)).2
  refine q_asgL (ds := (x :: wlF y D).map .str) ?_ ?_
  · have ew : (wlF y D).map PyData.str = (rngD 0 y.length).filterMap (fI fun j => .str (wdF (sg y j) (itI D (7 + j)).toNat)) := by
      rw [fI_rng]
      unfold wlF
      rw [List.map_map]; rfl
    show EL _ _ _ ([.str x] ++ (wlF y D).map PyData.str)
    refine el_op (EL.e (el_lst (ds := [.str x]) (a_cons (e_var rfl) a_nil) (Nat.le_of_ble_eq_true rfl))) (EL.e ?_) (add_l (by rw [List.length_map, wl]; show 1 + _ ≤ _; omega))
    rw [ew]
    refine el_lc (ix := [6]) (fI fun j => .str (wdF (sg y j) (itI D (7 + j)).toNat)) (fun d => [.fz (.int c), .fz (iL D), .fz (.str x), .fz (.str y), .un, .un, .fz d]) (it_rng1 (n := ((y.length : Nat) : Int)) (a_cons (b_cb (ab_cons (E.b (e_var rfl)) ab_nil) (len_s yz) rfl) a_nil) (by omega) (by omega)) (by rw [rngD_len]; omega) (fun F1 d hd => g_name) (by decide) (fun F1 d hd => ?_) fun F1 d hd z hz => ?_
    · obtain ⟨j, hj⟩ := List.getElem?_of_mem hd
      obtain ⟨hi, rfl⟩ := rngD_get hj
      exact fun σ F H hh Q q => q F H (Stp.refl hh.st.i)
    · obtain ⟨j, hj⟩ := List.getElem?_of_mem hd
      obtain ⟨hi, rfl⟩ := rngD_get hj
      cases hz
      have hi : j < y.length := by omega
      have n1 := nn j hi
      have ic : atI y.cps.toList (0 + (j : Int)) = _ := at_sg (by omega) (by rw [cps_len76]; omega)
      exact e_call (ds := [.str (sg y (0 + (j : Int))), .int ((itI D (7 + (0 + (j : Int)))).toNat : Nat)]) (a_cons (e_op (e_var rfl) (e_var rfl) (ix_s yz ic)) (a_cons (by rw [n1.1]; exact e_op (e_var rfl) (e_op e_int (e_var rfl) add_i) (ix_l (aD _ (by omega) (by omega)))) a_nil)) ⟨_, _, rfl, n1.2, rfl⟩
  generalize wlF y D = W at wl wo ⊢
  show S _ _ _ [.fz (.int c), .fz (iL D), .fz (.str x), .fz (.str y), .ow ((x :: W).map .str), .un, .un]
  refine s_cutA (α := List Str) (fun L => [.fz (.int c), .fz (iL D), .fz (.str x), .fz (.str y), .ow ((x :: L).map .str), .un, .un]) (fun L => L.length ≤ 100 ∧ ∀ t ∈ L, okT t) ?_ fun L hL => ?_
  · refine s_if (b := decide (itI D 4 % 2 = 0) && decide ((0 : Int) < (y.length : Nat))) (t_and (t_test (b_op (E.b (e_op (e_op (e_var rfl) e_int (ix_l (aD 4 (by decide) (by decide)))) e_int (mod_i (by decide)))) (E.b e_int) eq_i rfl)) fun _ => t_test (b_op (E.b (b_cb (ab_cons (E.b (e_var rfl)) ab_nil) (len_s yz) rfl)) (E.b e_int) gt_i rfl)) (fun z => ?_) fun _ => s_next (n_end W ⟨by omega, wo⟩ (by walk_at "w"))
    have yp := of_decide_eq_true (Bool.and_eq_true_iff.mp z).2
    have mp := md (itI D 5) ((y.length : Nat) : Int) yp
    refine q_asg (d := .int (itI D 5 % ((y.length : Nat) : Int))) (e_op (e_op (e_var rfl) e_int (ix_l (aD 5 (by decide) (by decide)))) (b_cb (ab_cons (E.b (e_var rfl)) ab_nil) (len_s yz) rfl) (mod_i yp)) ?_
    obtain ⟨pn, hpn⟩ : ∃ pn : Nat, itI D 5 % ((y.length : Nat) : Int) = (pn : Int) := ⟨(itI D 5 % ((y.length : Nat) : Int)).toNat, by omega⟩
    rw [hpn] at mp ⊢
    show S _ _ _ [.fz (.int c), .fz (iL D), .fz (.str x), .fz (.str y), .ow ((x :: W).map .str), .fz (.int (pn : Nat)), .un]
    have ic : atI y.cps.toList ((pn : Nat) : Int) = _ := at_sg mp.1 (by rw [cps_len76]; omega)
    have b6 := bD 6 (by decide) (by decide)
    have e6 : ((itI D 6).toNat : Int) = itI D 6 := by omega
    refine s_setIP (k := (pn : Int) + 1) (n := pn + 1) rfl (p_call (ds := [.str (sg y ((pn : Nat) : Int)), .int ((itI D 6).toNat : Nat)]) (a_cons (e_op (e_var rfl) (e_var rfl) (ix_s yz ic)) (a_cons (by rw [e6]; exact e_op (e_var rfl) e_int (ix_l (aD 6 (by decide) (by decide)))) a_nil)) ⟨_, _, rfl, by omega⟩) (e_op (e_var rfl) e_int add_i) ?_ fun d hd => ?_
    · unfold ixN
      rw [if_pos (by omega), if_pos (by rw [List.length_map, List.length_cons]; omega)]
      congr 1
    · obtain ⟨t, rfl, ht⟩ := hd
      refine n_end (W.set pn t) ⟨by rw [List.length_set]; omega, fun u hu => ?_⟩ (.keep rfl (.keep rfl (.keep rfl (.keep rfl (.keep ?_ (.drop (.drop .nil)))))))
      · rcases List.mem_or_eq_of_mem_set hu with h | h
        · exact wo u h
        · rw [h]; exact ht
      · show Sl.ow ((x :: W.set pn t).map .str) = Sl.ow (((x :: W).map PyData.str).set (pn + 1) (.str t))
        rw [List.map_cons, List.map_cons, List.set_cons_succ, List.map_set]
  · obtain ⟨h1, h2⟩ := hL
    exact s_retO rfl (RtL.of (D := { nx := fun x H' => Q V.non H', rt := Q }) (fun v F H st dp => rt v F H _ st ⟨x, L, rfl, okx, h1, h2⟩ dp))
end

/-! ### the law -/
section
variable {P : Program} {w : World} {K : PySem.W.Frag} {mg : Str → Option Value} {base : Heap} {f : Addr} {fd : FuncData} {Tb : List Addr} {k : Nat}
theorem neP_same76 {g : Gd} {x : PyData} (hx : Pl 40 x) : RB g (rNeP g.K) x x (.bool false) := neP_same hx
theorem pl_sL (l : List Str) : Pl 1 (sL l) := pl_lst (pla_of fun y hy => by obtain ⟨s, _, rfl⟩ := List.mem_map.mp hy; exact pl_str)
theorem pl_os (o : Option Str) : Pl 1 (osD o) := by
  cases o with
  | none => exact pl_non
  | some s => exact pl_str
theorem cw_expr : cwF "expr" [] = some "fields" := by decide +kernel
theorem cw_route : cwF "route" [] = none := by decide +kernel
def R_law : List PyData → PyData → Prop := fun ds d => ∃ (s : List Int), ds = [iL s] ∧ s.length ≤ 63 ∧ d = .bool true
theorem ok_law (Fn : Fun K "law" "law" s_law f fd) (Z : Zb mg)
    (D_l_law_list : Df P w K mg base 2 "_law_list" ["cell"] (spA K Tb A_list R_list)) (D_l_law_checked : Df P w K mg base 3 "_law_checked" ["words"] (spD K Tb R_lc))
    (D_check_words : Df P w K mg base 5 "check_words" ["words"] (spD K Tb R_cw)) :
    FnOk P w K mg base CX0 6 f fd ["script"] (spD K Tb R_law) := by
  refine fn_D Fn sc_law (fun ds d h => by obtain ⟨s, rfl, _⟩ := h; rfl) fun cdv A outer s H Ek hr => ⟨_, (pss_cons (ps_for PassesOwn.never rfl (pi_any (pe_slice (uSlK K) (pv 0) po_none (po_some pe_int))) (pg_name (i := 1) sc_law.nd rfl (by first | exact .inl rfl | exact .inr rfl)) (pss_cons (ps_set (i := 2) sc_law.nd rfl (by first | exact .inl rfl | exact .inr rfl) (pe_df D_l_law_list hr (by first | decide | exact Nat.le_refl _ | omega) (by rfl) (pa_cons (pv 1) pa_nil)))
      (pss_cons (ps_set (i := 3) sc_law.nd rfl (by first | exact .inl rfl | exact .inr rfl) (pe_df D_l_law_checked hr (by first | decide | exact Nat.le_refl _ | omega) (by rfl) (pa_cons (pv 2) pa_nil)))
      (pss_cons (ps_set (i := 4) sc_law.nd rfl (by first | exact .inl rfl | exact .inr rfl) (pe_callTy (uListK K (by rfl)) (by rfl) Z.list (by decide +kernel) (pa_cons (pv 2) pa_nil)))
      (pss_cons (ps_set (i := 5) sc_law.nd rfl (by first | exact .inl rfl | exact .inr rfl) (pe_df D_check_words hr (by first | decide | exact Nat.le_refl _ | omega) (by rfl) (pa_cons (pv 4) pa_nil)))
      (pss_cons (ps_if (PW.pt (pw_or (pt_cmpR (uNePK K hr.units) (pv 4) (pv 2) (nomark _)) (pw_or1 (pt_cmpR (uNePK K hr.units) (pe_cmpR uIsN (pv 5) pe_non (nomark _)) (pe_cmpR uIsN (pv 3) pe_non (nomark _)) (nomark _))))) (pss_one (ps_ret pe_bl)) pss_nil)
      (pss_one (ps_if (PW.pt (pw_and (pt_cmpR uNotN (pv 3) pe_non (nomark _)) (pw_and1 (PW.pt (pw_or (pt_not (pt_truthK K (pe_callB (call_isiK K) (by rfl) Z.isinstance (by decide +kernel) (pa_cons (pv 5) (pa_cons (pe_bltn (by rfl) Z.str (by decide +kernel) (show RelV (.ty "str") (.type "str") from rfl)) pa_nil))) (by intro _; rfl))) (pw_or1 (pt_cmpR (uNePK K hr.units) (pv 5) (pv 3) (nomark _)))))))) (pss_one (ps_ret pe_bl)) pss_nil))))))))
      (pss_one (ps_ret (pe_and (pe_cmpR (uEqPK K hr.units) (pe_df D_check_words hr (by first | decide | exact Nat.le_refl _ | omega) (by rfl) (pa_cons (pe_lst (pa_cons pe_str pa_nil)) pa_nil)) pe_str (nomark _)) (pe_one (pe_cmpR uIsN (pe_df D_check_words hr (by first | decide | exact Nat.le_refl _ | omega) (by rfl) (pa_cons (pe_lst (pa_cons pe_str pa_nil)) pa_nil)) pe_non (nomark _))))))),  fun ds d F0 H0 Q r rt => ?_⟩
  obtain ⟨s, rfl, hl, rfl⟩ := r
  refine q_for1 (fun _ => [.fz (iL s), .un, .un, .un, .un, .un]) (ds := (cutA s none (some 40)).map .int) (it_al (by rw [← cut_map]; exact EL.e (el_sl (lo := none) (hi := some 40) (e_var rfl) o_none (o_some e_int)))) (Wk.refl _) (fun F1 i d hd => ?_) ?_
  · obtain ⟨c, hc, rfl⟩ := map_get hd
    refine ⟨_, _, g_name, ?_⟩
    refine q_asgP (P := R_list [.int c]) (p_call (ds := [.int c]) (a_cons (e_var rfl) a_nil) ⟨c, rfl⟩) fun d hd => ?_
    obtain ⟨x, r, rfl, okx, hr1, ht⟩ := hd
    refine q_asg (d := osD (cwF x r)) (e_call (ds := [sL (x :: r)]) (a_cons (e_var rfl) a_nil) ⟨x, r, rfl, okx, hr1, fun t h => ht t h, rfl⟩) ?_
    refine q_asg (d := sL (x :: r)) (EL.e (lw_list (e_var rfl))) ?_
    refine q_asg (d := osD (cwF x r)) (e_call (ds := [sL (x :: r)]) (a_cons (e_var rfl) a_nil) ⟨x, r, rfl, okx, by omega, fun t h => Nat.le_trans (ht t h).2 (by decide), rfl⟩) ?_
    generalize cwF x r = o
    show S _ _ _ [.fz (iL s), .fz (.int c), .fz (sL (x :: r)), .fz (osD o), .fz (sL (x :: r)), .fz (osD o)]
    refine q_if (b := false || false) (t_or (t_test (b_op (x := sL (x :: r)) (E.b (e_var rfl)) (E.b (e_var rfl)) (neP_same ((pl_sL _).mono (by decide))) rfl)) fun _ => t_test (b_op (x := .bool (isND (osD o))) (y := .bool (isND (osD o))) (E.b (b_op (E.b (e_var rfl)) (E.b e_non) is_n rfl)) (E.b (b_op (E.b (e_var rfl)) (E.b e_non) is_n rfl)) (neP_same pl_bl) rfl)) (fun z => by cases z) fun _ => s_next (n_go ?_)
    cases o with
    | none => exact s_if (b := !isND (osD none) && true) (t_and (t_test (b_op (E.b (e_var rfl)) (E.b e_non) nis_n rfl)) fun z => by cases z) (fun z => by cases z) fun _ => s_next (n_end1 (by walk_at "w"))
    | some y => exact s_if (b := !isND (osD (some y)) && (!true || false)) (t_and (t_test (b_op (E.b (e_var rfl)) (E.b e_non) nis_n rfl)) fun _ => t_or (t_not (t_tru (d := .bool true) (E.b (e_isiD (x := .str y) (E.b (e_var rfl)) (by decide))) rfl)) fun _ => t_test (b_op (x := .str y) (E.b (e_var rfl)) (E.b (e_var rfl)) (neP_same pl_str) rfl)) (fun z => by cases z) fun _ => s_next (n_end1 (by walk_at "w"))
  · have n0 : ∀ t ∈ ([] : List Str), t.length ≤ 100000 := fun t h => by cases h
    have r1 : R_cw [sL ["expr"]] (.str "fields") := ⟨"expr", [], rfl, .inl rfl, Nat.zero_le _, n0, by rw [cw_expr]; rfl⟩
    have r2 : R_cw [sL ["route"]] .none := ⟨"route", [], rfl, .inr (.inl rfl), Nat.zero_le _, n0, by rw [cw_route]; rfl⟩
    refine s_ret (d := .bool (decide (("fields" : Str) = "fields") && isND .none)) (e_andV (b_op (E.b (e_call (ds := [sL ["expr"]]) (a_cons (EL.e (el_lst (ds := [.str "expr"]) (a_cons e_str a_nil) (Nat.le_of_ble_eq_true rfl))) a_nil) r1)) (E.b e_str) eqP_s rfl) fun _ => b_op (E.b (e_call (ds := [sL ["route"]]) (a_cons (EL.e (el_lst (ds := [.str "route"]) (a_cons e_str a_nil) (Nat.le_of_ble_eq_true rfl))) a_nil) r2)) (E.b e_non) is_n rfl) ?_
    rw [decide_eq_true rfl]
    exact rt
end


theorem all_mk {l : PySem.W.OpenLaw} {w : World} {K : PySem.W.Frag} {h : Heap} {mg : Str → Option Value} {fa f1 f2 f3 f4 f5 f6 f7 f8 f9 f10 f11 f12 f13 f14 f15 f16 f17 : Addr} {ct12_ pt12_ : Addr} {ocm12 : Value} {odm12 : Option Addr} {vsm12 : Array Value} {slm12 : Array (Option Value)} {ct14_ pt14_ : Addr} {ocm14 : Value} {odm14 : Option Addr} {vsm14 : Array Value} {slm14 : Array (Option Value)} (X : K.In h) (G : h.Ns mainGlobals mg) (hfa : mg "law" = some (.ref fa))
    {od1 an1 od2 an2 od3 an3 od4 an4 od5 an5 od6 an6 od7 an7 od8 an8 od9 an9 od10 an10 od11 an11 od12 an12 od13 an13 od14 an14 od15 an15 od16 an16 od17 an17 : Option Addr} {sl1 sl2 sl3 sl4 sl5 sl6 sl7 sl8 sl9 sl10 sl11 sl12 sl13 sl14 sl15 sl16 sl17 : Array (Option Value)} {oc1 kV1 dc1 pm1 cd1 ct1 oc2 kV2 dc2 pm2 cd2 ct2 oc3 kV3 dc3 pm3 cd3 ct3 oc4 kV4 dc4 pm4 cd4 ct4 oc5 kV5 dc5 pm5 cd5 ct5 oc6 kV6 dc6 pm6 cd6 ct6 oc7 kV7 dc7 pm7 cd7 ct7 oc8 kV8 dc8 pm8 cd8 ct8 oc9 kV9 dc9 pm9 cd9 ct9 oc10 kV10 dc10 pm10 cd10 ct10 oc11 kV11 dc11 pm11 cd11 ct11 oc12 kV12 dc12 pm12 ct12 oc13 kV13 dc13 pm13 cd13 ct13 oc14 kV14 dc14 pm14 ct14 oc15 kV15 dc15 pm15 cd15 ct15 oc16 kV16 dc16 pm16 cd16 ct16 oc17 kV17 dc17 pm17 cd17 ct17 : Value}
    (a1 : PySem.W.nsIn K mainGlobals "_law_draws" = some (some (.ref f1))) (l1 : K.lookup f1 = some ⟨oc1, od1, .func (PySem.W.fnOf "_law_draws" "_law_draws" (defArgs s_l_law_draws) (defBody s_l_law_draws) (defScope s_l_law_draws) .none kV1 dc1 pm1 an1 cd1 ct1), sl1⟩) (c1 : PySem.W.codeIn K cd1 "_law_draws" = true) (k1 : PySem.W.keepIn K (.ref f1) = true)
    (a2 : PySem.W.nsIn K mainGlobals "_law_first" = some (some (.ref f2))) (l2 : K.lookup f2 = some ⟨oc2, od2, .func (PySem.W.fnOf "_law_first" "_law_first" (defArgs s_l_law_first) (defBody s_l_law_first) (defScope s_l_law_first) .none kV2 dc2 pm2 an2 cd2 ct2), sl2⟩) (c2 : PySem.W.codeIn K cd2 "_law_first" = true) (k2 : PySem.W.keepIn K (.ref f2) = true)
    (a3 : PySem.W.nsIn K mainGlobals "_law_shape" = some (some (.ref f3))) (l3 : K.lookup f3 = some ⟨oc3, od3, .func (PySem.W.fnOf "_law_shape" "_law_shape" (defArgs s_l_law_shape) (defBody s_l_law_shape) (defScope s_l_law_shape) .none kV3 dc3 pm3 an3 cd3 ct3), sl3⟩) (c3 : PySem.W.codeIn K cd3 "_law_shape" = true) (k3 : PySem.W.keepIn K (.ref f3) = true)
    (a4 : PySem.W.nsIn K mainGlobals "_law_further" = some (some (.ref f4))) (l4 : K.lookup f4 = some ⟨oc4, od4, .func (PySem.W.fnOf "_law_further" "_law_further" (defArgs s_l_law_further) (defBody s_l_law_further) (defScope s_l_law_further) .none kV4 dc4 pm4 an4 cd4 ct4), sl4⟩) (c4 : PySem.W.codeIn K cd4 "_law_further" = true) (k4 : PySem.W.keepIn K (.ref f4) = true)
    (a5 : PySem.W.nsIn K mainGlobals "_law_word" = some (some (.ref f5))) (l5 : K.lookup f5 = some ⟨oc5, od5, .func (PySem.W.fnOf "_law_word" "_law_word" (defArgs s_l_law_word) (defBody s_l_law_word) (defScope s_l_law_word) .none kV5 dc5 pm5 an5 cd5 ct5), sl5⟩) (c5 : PySem.W.codeIn K cd5 "_law_word" = true) (k5 : PySem.W.keepIn K (.ref f5) = true)
    (a6 : PySem.W.nsIn K mainGlobals "_law_wrong" = some (some (.ref f6))) (l6 : K.lookup f6 = some ⟨oc6, od6, .func (PySem.W.fnOf "_law_wrong" "_law_wrong" (defArgs s_l_law_wrong) (defBody s_l_law_wrong) (defScope s_l_law_wrong) .none kV6 dc6 pm6 an6 cd6 ct6), sl6⟩) (c6 : PySem.W.codeIn K cd6 "_law_wrong" = true) (k6 : PySem.W.keepIn K (.ref f6) = true)
    (a7 : PySem.W.nsIn K mainGlobals "_law_list" = some (some (.ref f7))) (l7 : K.lookup f7 = some ⟨oc7, od7, .func (PySem.W.fnOf "_law_list" "_law_list" (defArgs s_l_law_list) (defBody s_l_law_list) (defScope s_l_law_list) .none kV7 dc7 pm7 an7 cd7 ct7), sl7⟩) (c7 : PySem.W.codeIn K cd7 "_law_list" = true) (k7 : PySem.W.keepIn K (.ref f7) = true)
    (a8 : PySem.W.nsIn K mainGlobals "_law_consists" = some (some (.ref f8))) (l8 : K.lookup f8 = some ⟨oc8, od8, .func (PySem.W.fnOf "_law_consists" "_law_consists" (defArgs s_l_law_consists) (defBody s_l_law_consists) (defScope s_l_law_consists) .none kV8 dc8 pm8 an8 cd8 ct8), sl8⟩) (c8 : PySem.W.codeIn K cd8 "_law_consists" = true) (k8 : PySem.W.keepIn K (.ref f8) = true)
    (a9 : PySem.W.nsIn K mainGlobals "_law_right" = some (some (.ref f9))) (l9 : K.lookup f9 = some ⟨oc9, od9, .func (PySem.W.fnOf "_law_right" "_law_right" (defArgs s_l_law_right) (defBody s_l_law_right) (defScope s_l_law_right) .none kV9 dc9 pm9 an9 cd9 ct9), sl9⟩) (c9 : PySem.W.codeIn K cd9 "_law_right" = true) (k9 : PySem.W.keepIn K (.ref f9) = true)
    (a10 : PySem.W.nsIn K mainGlobals "_law_checked" = some (some (.ref f10))) (l10 : K.lookup f10 = some ⟨oc10, od10, .func (PySem.W.fnOf "_law_checked" "_law_checked" (defArgs s_l_law_checked) (defBody s_l_law_checked) (defScope s_l_law_checked) .none kV10 dc10 pm10 an10 cd10 ct10), sl10⟩) (c10 : PySem.W.codeIn K cd10 "_law_checked" = true) (k10 : PySem.W.keepIn K (.ref f10) = true)
    (a11 : PySem.W.nsIn K mainGlobals "sorts_for" = some (some (.ref f11))) (l11 : K.lookup f11 = some ⟨oc11, od11, .func (PySem.W.fnOf "sorts_for" "sorts_for" (defArgs s_sorts_for) (defBody s_sorts_for) (defScope s_sorts_for) .none kV11 dc11 pm11 an11 cd11 ct11), sl11⟩) (c11 : PySem.W.codeIn K cd11 "sorts_for" = true) (k11 : PySem.W.keepIn K (.ref f11) = true)
    (a12 : PySem.W.nsIn K mainGlobals "is_value" = some (some (.ref f12))) (l12 : K.lookup f12 = some ⟨oc12, od12, .func (PySem.W.fnOf "is_value" "is_value" (defArgs s_is_value) (defBody s_is_value) (defScope s_is_value) .none kV12 dc12 pm12 an12 (.ref ct12_) ct12), sl12⟩) (c12 : PySem.W.codeIn K (.ref ct12_) "is_value" = true) (k12 : PySem.W.keepIn K (.ref f12) = true)
    (a13 : PySem.W.nsIn K mainGlobals "is_name" = some (some (.ref f13))) (l13 : K.lookup f13 = some ⟨oc13, od13, .func (PySem.W.fnOf "is_name" "is_name" (defArgs s_is_name) (defBody s_is_name) (defScope s_is_name) .none kV13 dc13 pm13 an13 cd13 ct13), sl13⟩) (c13 : PySem.W.codeIn K cd13 "is_name" = true) (k13 : PySem.W.keepIn K (.ref f13) = true)
    (a14 : PySem.W.nsIn K mainGlobals "is_number" = some (some (.ref f14))) (l14 : K.lookup f14 = some ⟨oc14, od14, .func (PySem.W.fnOf "is_number" "is_number" (defArgs s_is_number) (defBody s_is_number) (defScope s_is_number) .none kV14 dc14 pm14 an14 (.ref ct14_) ct14), sl14⟩) (c14 : PySem.W.codeIn K (.ref ct14_) "is_number" = true) (k14 : PySem.W.keepIn K (.ref f14) = true)
    (a15 : PySem.W.nsIn K mainGlobals "is_of_sort" = some (some (.ref f15))) (l15 : K.lookup f15 = some ⟨oc15, od15, .func (PySem.W.fnOf "is_of_sort" "is_of_sort" (defArgs s_is_of_sort) (defBody s_is_of_sort) (defScope s_is_of_sort) .none kV15 dc15 pm15 an15 cd15 ct15), sl15⟩) (c15 : PySem.W.codeIn K cd15 "is_of_sort" = true) (k15 : PySem.W.keepIn K (.ref f15) = true)
    (a16 : PySem.W.nsIn K mainGlobals "check_words" = some (some (.ref f16))) (l16 : K.lookup f16 = some ⟨oc16, od16, .func (PySem.W.fnOf "check_words" "check_words" (defArgs s_check_words) (defBody s_check_words) (defScope s_check_words) .none kV16 dc16 pm16 an16 cd16 ct16), sl16⟩) (c16 : PySem.W.codeIn K cd16 "check_words" = true) (k16 : PySem.W.keepIn K (.ref f16) = true)
    (a17 : PySem.W.nsIn K mainGlobals "law" = some (some (.ref f17))) (l17 : K.lookup f17 = some ⟨oc17, od17, .func (PySem.W.fnOf "law" "law" (defArgs s_law) (defBody s_law) (defScope s_law) .none kV17 dc17 pm17 an17 cd17 ct17), sl17⟩) (c17 : PySem.W.codeIn K cd17 "law" = true) (k17 : PySem.W.keepIn K (.ref f17) = true)
    (m12 : K.lookup ct12_ = some ⟨ocm12, odm12, .fields vsm12, slm12⟩) (v12 : vsm12[11]? = some (.ref pt12_)) (n12 : K.lookup pt12_ = none)
    (m14 : K.lookup ct14_ = some ⟨ocm14, odm14, .fields vsm14, slm14⟩) (v14 : vsm14[11]? = some (.ref pt14_)) (n14 : K.lookup pt14_ = none)
    (z1 : PySem.W.nsIn K mainGlobals "len" = some none)
    (z2 : PySem.W.nsIn K mainGlobals "range" = some none)
    (z3 : PySem.W.nsIn K mainGlobals "sorted" = some none)
    (z4 : PySem.W.nsIn K mainGlobals "list" = some none)
    (z5 : PySem.W.nsIn K mainGlobals "tuple" = some none)
    (z6 : PySem.W.nsIn K mainGlobals "int" = some none)
    (z7 : PySem.W.nsIn K mainGlobals "bool" = some none)
    (z8 : PySem.W.nsIn K mainGlobals "str" = some none)
    (z9 : PySem.W.nsIn K mainGlobals "dict" = some none)
    (z10 : PySem.W.nsIn K mainGlobals "set" = some none)
    (z11 : PySem.W.nsIn K mainGlobals "isinstance" = some none)
    (z12 : PySem.W.nsIn K mainGlobals "sum" = some none)
    (z13 : PySem.W.nsIn K mainGlobals "min" = some none)
    (z14 : PySem.W.nsIn K mainGlobals "max" = some none)
    (z15 : PySem.W.nsIn K mainGlobals "enumerate" = some none)
    (z16 : PySem.W.nsIn K mainGlobals "zip" = some none)
    (z17 : PySem.W.nsIn K mainGlobals "any" = some none)
    (z18 : PySem.W.nsIn K mainGlobals "all" = some none)
    (z19 : PySem.W.nsIn K mainGlobals "abs" = some none)
    (z20 : PySem.W.nsIn K mainGlobals "reversed" = some none)
    {kc_LONGEST_WORD : Tok} (c_LONGEST_WORD : PySem.W.nsIn K mainGlobals "LONGEST_WORD" = some (some (.int 20 kc_LONGEST_WORD)))
    {kc_MOST_DIGITS : Tok} (c_MOST_DIGITS : PySem.W.nsIn K mainGlobals "MOST_DIGITS" = some (some (.int 5 kc_MOST_DIGITS)))
    {kc_CHARACTERS : Tok} (c_CHARACTERS : PySem.W.nsIn K mainGlobals "CHARACTERS" = some (some (.str (CH) kc_CHARACTERS)))
    {kc_DIGITS : Tok} (c_DIGITS : PySem.W.nsIn K mainGlobals "DIGITS" = some (some (.str (DG0) kc_DIGITS)))
    {kc_EMPTY_VALUE : Tok} (c_EMPTY_VALUE : PySem.W.nsIn K mainGlobals "EMPTY_VALUE" = some (some (.str ("-") kc_EMPTY_VALUE)))
    {kc_LETTERS : Tok} (c_LETTERS : PySem.W.nsIn K mainGlobals "LETTERS" = some (some (.str (LE) kc_LETTERS)))
    {U_TESTS : Addr} {ud_TESTS : Option Addr} {un_TESTS : Nat} {ul_TESTS : Array (Option Value)} {uk0_TESTS uk1_TESTS : Tok}
    (ua_TESTS : PySem.W.nsIn K mainGlobals "TESTS" = some (some (.ref U_TESTS)))
    (ub_TESTS : K.lookup U_TESTS = some ⟨.type "tuple", ud_TESTS, .seq #[.str "in" uk0_TESTS, .str "not" uk1_TESTS] un_TESTS, ul_TESTS⟩)
    {D_SHAPES : Addr} {des_SHAPES : Array DictEntry} {dn_SHAPES : Nat}
    (da_SHAPES : PySem.W.nsIn K mainGlobals "SHAPES" = some (some (.ref D_SHAPES)))
    (db_SHAPES : K.lookup D_SHAPES = some ⟨.type "dict", none, .dict des_SHAPES dn_SHAPES, #[]⟩)
    (dc_SHAPES : PySem.W.KeysLit w.params des_SHAPES.toList)
    (dl_SHAPES : (D_SHAPES == sysModules) = false)
    {A0_SHAPES B0_SHAPES : Addr} {oa0_SHAPES ob0_SHAPES : Option Addr} {na0_SHAPES nb0_SHAPES : Nat} {la0_SHAPES lb0_SHAPES : Array (Option Value)}
    {kf0_0_SHAPES : Tok}
    (dv0_SHAPES : PySem.W.nsIn K D_SHAPES "week" = some (some (.ref A0_SHAPES)))
    (ta0_SHAPES : K.lookup A0_SHAPES = some ⟨.type "tuple", oa0_SHAPES, .seq #[.ref B0_SHAPES, .none] na0_SHAPES, la0_SHAPES⟩)
    (tb0_SHAPES : K.lookup B0_SHAPES = some ⟨.type "tuple", ob0_SHAPES, .seq #[.str "number" kf0_0_SHAPES] nb0_SHAPES, lb0_SHAPES⟩)
    {A1_SHAPES B1_SHAPES : Addr} {oa1_SHAPES ob1_SHAPES : Option Addr} {na1_SHAPES nb1_SHAPES : Nat} {la1_SHAPES lb1_SHAPES : Array (Option Value)}
    {kf0_1_SHAPES : Tok}
    (dv1_SHAPES : PySem.W.nsIn K D_SHAPES "lookback" = some (some (.ref A1_SHAPES)))
    (ta1_SHAPES : K.lookup A1_SHAPES = some ⟨.type "tuple", oa1_SHAPES, .seq #[.ref B1_SHAPES, .none] na1_SHAPES, la1_SHAPES⟩)
    (tb1_SHAPES : K.lookup B1_SHAPES = some ⟨.type "tuple", ob1_SHAPES, .seq #[.str "number" kf0_1_SHAPES] nb1_SHAPES, lb1_SHAPES⟩)
    {A2_SHAPES B2_SHAPES : Addr} {oa2_SHAPES ob2_SHAPES : Option Addr} {na2_SHAPES nb2_SHAPES : Nat} {la2_SHAPES lb2_SHAPES : Array (Option Value)}
    {kf0_2_SHAPES kf1_2_SHAPES kf2_2_SHAPES kf3_2_SHAPES : Tok}
    (dv2_SHAPES : PySem.W.nsIn K D_SHAPES "store" = some (some (.ref A2_SHAPES)))
    (ta2_SHAPES : K.lookup A2_SHAPES = some ⟨.type "tuple", oa2_SHAPES, .seq #[.ref B2_SHAPES, .none] na2_SHAPES, la2_SHAPES⟩)
    (tb2_SHAPES : K.lookup B2_SHAPES = some ⟨.type "tuple", ob2_SHAPES, .seq #[.str "number" kf0_2_SHAPES, .str "number" kf1_2_SHAPES, .str "number" kf2_2_SHAPES, .str "number" kf3_2_SHAPES] nb2_SHAPES, lb2_SHAPES⟩)
    {A3_SHAPES B3_SHAPES : Addr} {oa3_SHAPES ob3_SHAPES : Option Addr} {na3_SHAPES nb3_SHAPES : Nat} {la3_SHAPES lb3_SHAPES : Array (Option Value)}
    {kf0_3_SHAPES kf1_3_SHAPES kf2_3_SHAPES : Tok}
    (dv3_SHAPES : PySem.W.nsIn K D_SHAPES "pager" = some (some (.ref A3_SHAPES)))
    (ta3_SHAPES : K.lookup A3_SHAPES = some ⟨.type "tuple", oa3_SHAPES, .seq #[.ref B3_SHAPES, .none] na3_SHAPES, la3_SHAPES⟩)
    (tb3_SHAPES : K.lookup B3_SHAPES = some ⟨.type "tuple", ob3_SHAPES, .seq #[.str "number" kf0_3_SHAPES, .str "number" kf1_3_SHAPES, .str "number" kf2_3_SHAPES] nb3_SHAPES, lb3_SHAPES⟩)
    {A4_SHAPES B4_SHAPES : Addr} {oa4_SHAPES ob4_SHAPES : Option Addr} {na4_SHAPES nb4_SHAPES : Nat} {la4_SHAPES lb4_SHAPES : Array (Option Value)}
    {kf0_4_SHAPES kf1_4_SHAPES : Tok}
    (dv4_SHAPES : PySem.W.nsIn K D_SHAPES "person" = some (some (.ref A4_SHAPES)))
    (ta4_SHAPES : K.lookup A4_SHAPES = some ⟨.type "tuple", oa4_SHAPES, .seq #[.ref B4_SHAPES, .none] na4_SHAPES, la4_SHAPES⟩)
    (tb4_SHAPES : K.lookup B4_SHAPES = some ⟨.type "tuple", ob4_SHAPES, .seq #[.str "name" kf0_4_SHAPES, .str "number" kf1_4_SHAPES] nb4_SHAPES, lb4_SHAPES⟩)
    {A5_SHAPES B5_SHAPES : Addr} {oa5_SHAPES ob5_SHAPES : Option Addr} {na5_SHAPES nb5_SHAPES : Nat} {la5_SHAPES lb5_SHAPES : Array (Option Value)}
    {kf0_5_SHAPES : Tok}
    (dv5_SHAPES : PySem.W.nsIn K D_SHAPES "schedule" = some (some (.ref A5_SHAPES)))
    (ta5_SHAPES : K.lookup A5_SHAPES = some ⟨.type "tuple", oa5_SHAPES, .seq #[.ref B5_SHAPES, .none] na5_SHAPES, la5_SHAPES⟩)
    (tb5_SHAPES : K.lookup B5_SHAPES = some ⟨.type "tuple", ob5_SHAPES, .seq #[.str "name" kf0_5_SHAPES] nb5_SHAPES, lb5_SHAPES⟩)
    {A6_SHAPES B6_SHAPES : Addr} {oa6_SHAPES ob6_SHAPES : Option Addr} {na6_SHAPES nb6_SHAPES : Nat} {la6_SHAPES lb6_SHAPES : Array (Option Value)}
    {kf0_6_SHAPES : Tok}
    (dv6_SHAPES : PySem.W.nsIn K D_SHAPES "policy" = some (some (.ref A6_SHAPES)))
    (ta6_SHAPES : K.lookup A6_SHAPES = some ⟨.type "tuple", oa6_SHAPES, .seq #[.ref B6_SHAPES, .none] na6_SHAPES, la6_SHAPES⟩)
    (tb6_SHAPES : K.lookup B6_SHAPES = some ⟨.type "tuple", ob6_SHAPES, .seq #[.str "name" kf0_6_SHAPES] nb6_SHAPES, lb6_SHAPES⟩)
    {A7_SHAPES B7_SHAPES : Addr} {oa7_SHAPES ob7_SHAPES : Option Addr} {na7_SHAPES nb7_SHAPES : Nat} {la7_SHAPES lb7_SHAPES : Array (Option Value)}
    {kf0_7_SHAPES : Tok}
    (dv7_SHAPES : PySem.W.nsIn K D_SHAPES "window" = some (some (.ref A7_SHAPES)))
    (ta7_SHAPES : K.lookup A7_SHAPES = some ⟨.type "tuple", oa7_SHAPES, .seq #[.ref B7_SHAPES, .none] na7_SHAPES, la7_SHAPES⟩)
    (tb7_SHAPES : K.lookup B7_SHAPES = some ⟨.type "tuple", ob7_SHAPES, .seq #[.str "name" kf0_7_SHAPES] nb7_SHAPES, lb7_SHAPES⟩)
    {A8_SHAPES B8_SHAPES : Addr} {oa8_SHAPES ob8_SHAPES : Option Addr} {na8_SHAPES nb8_SHAPES : Nat} {la8_SHAPES lb8_SHAPES : Array (Option Value)}
    (dv8_SHAPES : PySem.W.nsIn K D_SHAPES "holdback" = some (some (.ref A8_SHAPES)))
    (ta8_SHAPES : K.lookup A8_SHAPES = some ⟨.type "tuple", oa8_SHAPES, .seq #[.ref B8_SHAPES, .none] na8_SHAPES, la8_SHAPES⟩)
    (tb8_SHAPES : K.lookup B8_SHAPES = some ⟨.type "tuple", ob8_SHAPES, .seq #[] nb8_SHAPES, lb8_SHAPES⟩)
    {A9_SHAPES B9_SHAPES : Addr} {oa9_SHAPES ob9_SHAPES : Option Addr} {na9_SHAPES nb9_SHAPES : Nat} {la9_SHAPES lb9_SHAPES : Array (Option Value)}
    {kf0_9_SHAPES kf1_9_SHAPES kf2_9_SHAPES : Tok}
    (dv9_SHAPES : PySem.W.nsIn K D_SHAPES "rules" = some (some (.ref A9_SHAPES)))
    (ta9_SHAPES : K.lookup A9_SHAPES = some ⟨.type "tuple", oa9_SHAPES, .seq #[.ref B9_SHAPES, .none] na9_SHAPES, la9_SHAPES⟩)
    (tb9_SHAPES : K.lookup B9_SHAPES = some ⟨.type "tuple", ob9_SHAPES, .seq #[.str "name" kf0_9_SHAPES, .str "number" kf1_9_SHAPES, .str "number" kf2_9_SHAPES] nb9_SHAPES, lb9_SHAPES⟩)
    {A10_SHAPES B10_SHAPES : Addr} {oa10_SHAPES ob10_SHAPES : Option Addr} {na10_SHAPES nb10_SHAPES : Nat} {la10_SHAPES lb10_SHAPES : Array (Option Value)}
    {km10_SHAPES kf0_10_SHAPES kf1_10_SHAPES kf2_10_SHAPES : Tok}
    (dv10_SHAPES : PySem.W.nsIn K D_SHAPES "layer" = some (some (.ref A10_SHAPES)))
    (ta10_SHAPES : K.lookup A10_SHAPES = some ⟨.type "tuple", oa10_SHAPES, .seq #[.ref B10_SHAPES, .str "name" km10_SHAPES] na10_SHAPES, la10_SHAPES⟩)
    (tb10_SHAPES : K.lookup B10_SHAPES = some ⟨.type "tuple", ob10_SHAPES, .seq #[.str "number" kf0_10_SHAPES, .str "number" kf1_10_SHAPES, .str "name" kf2_10_SHAPES] nb10_SHAPES, lb10_SHAPES⟩)
    {A11_SHAPES B11_SHAPES : Addr} {oa11_SHAPES ob11_SHAPES : Option Addr} {na11_SHAPES nb11_SHAPES : Nat} {la11_SHAPES lb11_SHAPES : Array (Option Value)}
    {kf0_11_SHAPES kf1_11_SHAPES : Tok}
    (dv11_SHAPES : PySem.W.nsIn K D_SHAPES "span" = some (some (.ref A11_SHAPES)))
    (ta11_SHAPES : K.lookup A11_SHAPES = some ⟨.type "tuple", oa11_SHAPES, .seq #[.ref B11_SHAPES, .none] na11_SHAPES, la11_SHAPES⟩)
    (tb11_SHAPES : K.lookup B11_SHAPES = some ⟨.type "tuple", ob11_SHAPES, .seq #[.str "number" kf0_11_SHAPES, .str "number" kf1_11_SHAPES] nb11_SHAPES, lb11_SHAPES⟩)
    {A12_SHAPES B12_SHAPES : Addr} {oa12_SHAPES ob12_SHAPES : Option Addr} {na12_SHAPES nb12_SHAPES : Nat} {la12_SHAPES lb12_SHAPES : Array (Option Value)}
    {kf0_12_SHAPES kf1_12_SHAPES kf2_12_SHAPES : Tok}
    (dv12_SHAPES : PySem.W.nsIn K D_SHAPES "standin" = some (some (.ref A12_SHAPES)))
    (ta12_SHAPES : K.lookup A12_SHAPES = some ⟨.type "tuple", oa12_SHAPES, .seq #[.ref B12_SHAPES, .none] na12_SHAPES, la12_SHAPES⟩)
    (tb12_SHAPES : K.lookup B12_SHAPES = some ⟨.type "tuple", ob12_SHAPES, .seq #[.str "name" kf0_12_SHAPES, .str "number" kf1_12_SHAPES, .str "number" kf2_12_SHAPES] nb12_SHAPES, lb12_SHAPES⟩)
    {A13_SHAPES B13_SHAPES : Addr} {oa13_SHAPES ob13_SHAPES : Option Addr} {na13_SHAPES nb13_SHAPES : Nat} {la13_SHAPES lb13_SHAPES : Array (Option Value)}
    {kf0_13_SHAPES kf1_13_SHAPES : Tok}
    (dv13_SHAPES : PySem.W.nsIn K D_SHAPES "ring" = some (some (.ref A13_SHAPES)))
    (ta13_SHAPES : K.lookup A13_SHAPES = some ⟨.type "tuple", oa13_SHAPES, .seq #[.ref B13_SHAPES, .none] na13_SHAPES, la13_SHAPES⟩)
    (tb13_SHAPES : K.lookup B13_SHAPES = some ⟨.type "tuple", ob13_SHAPES, .seq #[.str "name" kf0_13_SHAPES, .str "number" kf1_13_SHAPES] nb13_SHAPES, lb13_SHAPES⟩)
    {A14_SHAPES B14_SHAPES : Addr} {oa14_SHAPES ob14_SHAPES : Option Addr} {na14_SHAPES nb14_SHAPES : Nat} {la14_SHAPES lb14_SHAPES : Array (Option Value)}
    {km14_SHAPES kf0_14_SHAPES kf1_14_SHAPES kf2_14_SHAPES : Tok}
    (dv14_SHAPES : PySem.W.nsIn K D_SHAPES "match" = some (some (.ref A14_SHAPES)))
    (ta14_SHAPES : K.lookup A14_SHAPES = some ⟨.type "tuple", oa14_SHAPES, .seq #[.ref B14_SHAPES, .str "value" km14_SHAPES] na14_SHAPES, la14_SHAPES⟩)
    (tb14_SHAPES : K.lookup B14_SHAPES = some ⟨.type "tuple", ob14_SHAPES, .seq #[.str "name" kf0_14_SHAPES, .str "test" kf1_14_SHAPES, .str "value" kf2_14_SHAPES] nb14_SHAPES, lb14_SHAPES⟩)
    {A15_SHAPES B15_SHAPES : Addr} {oa15_SHAPES ob15_SHAPES : Option Addr} {na15_SHAPES nb15_SHAPES : Nat} {la15_SHAPES lb15_SHAPES : Array (Option Value)}
    {km15_SHAPES : Tok}
    (dv15_SHAPES : PySem.W.nsIn K D_SHAPES "group" = some (some (.ref A15_SHAPES)))
    (ta15_SHAPES : K.lookup A15_SHAPES = some ⟨.type "tuple", oa15_SHAPES, .seq #[.ref B15_SHAPES, .str "name" km15_SHAPES] na15_SHAPES, la15_SHAPES⟩)
    (tb15_SHAPES : K.lookup B15_SHAPES = some ⟨.type "tuple", ob15_SHAPES, .seq #[] nb15_SHAPES, lb15_SHAPES⟩)
    {A16_SHAPES B16_SHAPES : Addr} {oa16_SHAPES ob16_SHAPES : Option Addr} {na16_SHAPES nb16_SHAPES : Nat} {la16_SHAPES lb16_SHAPES : Array (Option Value)}
    {kf0_16_SHAPES : Tok}
    (dv16_SHAPES : PySem.W.nsIn K D_SHAPES "wait" = some (some (.ref A16_SHAPES)))
    (ta16_SHAPES : K.lookup A16_SHAPES = some ⟨.type "tuple", oa16_SHAPES, .seq #[.ref B16_SHAPES, .none] na16_SHAPES, la16_SHAPES⟩)
    (tb16_SHAPES : K.lookup B16_SHAPES = some ⟨.type "tuple", ob16_SHAPES, .seq #[.str "number" kf0_16_SHAPES] nb16_SHAPES, lb16_SHAPES⟩)
    {A17_SHAPES B17_SHAPES : Addr} {oa17_SHAPES ob17_SHAPES : Option Addr} {na17_SHAPES nb17_SHAPES : Nat} {la17_SHAPES lb17_SHAPES : Array (Option Value)}
    {kf0_17_SHAPES : Tok}
    (dv17_SHAPES : PySem.W.nsIn K D_SHAPES "interval" = some (some (.ref A17_SHAPES)))
    (ta17_SHAPES : K.lookup A17_SHAPES = some ⟨.type "tuple", oa17_SHAPES, .seq #[.ref B17_SHAPES, .none] na17_SHAPES, la17_SHAPES⟩)
    (tb17_SHAPES : K.lookup B17_SHAPES = some ⟨.type "tuple", ob17_SHAPES, .seq #[.str "number" kf0_17_SHAPES] nb17_SHAPES, lb17_SHAPES⟩)
    {A18_SHAPES B18_SHAPES : Addr} {oa18_SHAPES ob18_SHAPES : Option Addr} {na18_SHAPES nb18_SHAPES : Nat} {la18_SHAPES lb18_SHAPES : Array (Option Value)}
    {kf0_18_SHAPES : Tok}
    (dv18_SHAPES : PySem.W.nsIn K D_SHAPES "again" = some (some (.ref A18_SHAPES)))
    (ta18_SHAPES : K.lookup A18_SHAPES = some ⟨.type "tuple", oa18_SHAPES, .seq #[.ref B18_SHAPES, .none] na18_SHAPES, la18_SHAPES⟩)
    (tb18_SHAPES : K.lookup B18_SHAPES = some ⟨.type "tuple", ob18_SHAPES, .seq #[.str "number" kf0_18_SHAPES] nb18_SHAPES, lb18_SHAPES⟩)
    {A19_SHAPES B19_SHAPES : Addr} {oa19_SHAPES ob19_SHAPES : Option Addr} {na19_SHAPES nb19_SHAPES : Nat} {la19_SHAPES lb19_SHAPES : Array (Option Value)}
    {km19_SHAPES : Tok}
    (dv19_SHAPES : PySem.W.nsIn K D_SHAPES "mute" = some (some (.ref A19_SHAPES)))
    (ta19_SHAPES : K.lookup A19_SHAPES = some ⟨.type "tuple", oa19_SHAPES, .seq #[.ref B19_SHAPES, .str "name" km19_SHAPES] na19_SHAPES, la19_SHAPES⟩)
    (tb19_SHAPES : K.lookup B19_SHAPES = some ⟨.type "tuple", ob19_SHAPES, .seq #[] nb19_SHAPES, lb19_SHAPES⟩)
    {A20_SHAPES B20_SHAPES : Addr} {oa20_SHAPES ob20_SHAPES : Option Addr} {na20_SHAPES nb20_SHAPES : Nat} {la20_SHAPES lb20_SHAPES : Array (Option Value)}
    {kf0_20_SHAPES : Tok}
    (dv20_SHAPES : PySem.W.nsIn K D_SHAPES "by" = some (some (.ref A20_SHAPES)))
    (ta20_SHAPES : K.lookup A20_SHAPES = some ⟨.type "tuple", oa20_SHAPES, .seq #[.ref B20_SHAPES, .none] na20_SHAPES, la20_SHAPES⟩)
    (tb20_SHAPES : K.lookup B20_SHAPES = some ⟨.type "tuple", ob20_SHAPES, .seq #[.str "name" kf0_20_SHAPES] nb20_SHAPES, lb20_SHAPES⟩)
    {A21_SHAPES B21_SHAPES : Addr} {oa21_SHAPES ob21_SHAPES : Option Addr} {na21_SHAPES nb21_SHAPES : Nat} {la21_SHAPES lb21_SHAPES : Array (Option Value)}
    {km21_SHAPES kf0_21_SHAPES kf1_21_SHAPES kf2_21_SHAPES : Tok}
    (dv21_SHAPES : PySem.W.nsIn K D_SHAPES "source" = some (some (.ref A21_SHAPES)))
    (ta21_SHAPES : K.lookup A21_SHAPES = some ⟨.type "tuple", oa21_SHAPES, .seq #[.ref B21_SHAPES, .str "value" km21_SHAPES] na21_SHAPES, la21_SHAPES⟩)
    (tb21_SHAPES : K.lookup B21_SHAPES = some ⟨.type "tuple", ob21_SHAPES, .seq #[.str "name" kf0_21_SHAPES, .str "test" kf1_21_SHAPES, .str "value" kf2_21_SHAPES] nb21_SHAPES, lb21_SHAPES⟩)
    {A22_SHAPES B22_SHAPES : Addr} {oa22_SHAPES ob22_SHAPES : Option Addr} {na22_SHAPES nb22_SHAPES : Nat} {la22_SHAPES lb22_SHAPES : Array (Option Value)}
    {km22_SHAPES kf0_22_SHAPES kf1_22_SHAPES kf2_22_SHAPES : Tok}
    (dv22_SHAPES : PySem.W.nsIn K D_SHAPES "target" = some (some (.ref A22_SHAPES)))
    (ta22_SHAPES : K.lookup A22_SHAPES = some ⟨.type "tuple", oa22_SHAPES, .seq #[.ref B22_SHAPES, .str "value" km22_SHAPES] na22_SHAPES, la22_SHAPES⟩)
    (tb22_SHAPES : K.lookup B22_SHAPES = some ⟨.type "tuple", ob22_SHAPES, .seq #[.str "name" kf0_22_SHAPES, .str "test" kf1_22_SHAPES, .str "value" kf2_22_SHAPES] nb22_SHAPES, lb22_SHAPES⟩)
    {A23_SHAPES B23_SHAPES : Addr} {oa23_SHAPES ob23_SHAPES : Option Addr} {na23_SHAPES nb23_SHAPES : Nat} {la23_SHAPES lb23_SHAPES : Array (Option Value)}
    {km23_SHAPES : Tok}
    (dv23_SHAPES : PySem.W.nsIn K D_SHAPES "equal" = some (some (.ref A23_SHAPES)))
    (ta23_SHAPES : K.lookup A23_SHAPES = some ⟨.type "tuple", oa23_SHAPES, .seq #[.ref B23_SHAPES, .str "name" km23_SHAPES] na23_SHAPES, la23_SHAPES⟩)
    (tb23_SHAPES : K.lookup B23_SHAPES = some ⟨.type "tuple", ob23_SHAPES, .seq #[] nb23_SHAPES, lb23_SHAPES⟩)
    {A24_SHAPES B24_SHAPES : Addr} {oa24_SHAPES ob24_SHAPES : Option Addr} {na24_SHAPES nb24_SHAPES : Nat} {la24_SHAPES lb24_SHAPES : Array (Option Value)}
    {kf0_24_SHAPES : Tok}
    (dv24_SHAPES : PySem.W.nsIn K D_SHAPES "record" = some (some (.ref A24_SHAPES)))
    (ta24_SHAPES : K.lookup A24_SHAPES = some ⟨.type "tuple", oa24_SHAPES, .seq #[.ref B24_SHAPES, .none] na24_SHAPES, la24_SHAPES⟩)
    (tb24_SHAPES : K.lookup B24_SHAPES = some ⟨.type "tuple", ob24_SHAPES, .seq #[.str "name" kf0_24_SHAPES] nb24_SHAPES, lb24_SHAPES⟩)
    {A25_SHAPES B25_SHAPES : Addr} {oa25_SHAPES ob25_SHAPES : Option Addr} {na25_SHAPES nb25_SHAPES : Nat} {la25_SHAPES lb25_SHAPES : Array (Option Value)}
    {kf0_25_SHAPES kf1_25_SHAPES kf2_25_SHAPES : Tok}
    (dv25_SHAPES : PySem.W.nsIn K D_SHAPES "alert" = some (some (.ref A25_SHAPES)))
    (ta25_SHAPES : K.lookup A25_SHAPES = some ⟨.type "tuple", oa25_SHAPES, .seq #[.ref B25_SHAPES, .none] na25_SHAPES, la25_SHAPES⟩)
    (tb25_SHAPES : K.lookup B25_SHAPES = some ⟨.type "tuple", ob25_SHAPES, .seq #[.str "name" kf0_25_SHAPES, .str "number" kf1_25_SHAPES, .str "number" kf2_25_SHAPES] nb25_SHAPES, lb25_SHAPES⟩)
    {A26_SHAPES B26_SHAPES : Addr} {oa26_SHAPES ob26_SHAPES : Option Addr} {na26_SHAPES nb26_SHAPES : Nat} {la26_SHAPES lb26_SHAPES : Array (Option Value)}
    {kf0_26_SHAPES kf1_26_SHAPES : Tok}
    (dv26_SHAPES : PySem.W.nsIn K D_SHAPES "label" = some (some (.ref A26_SHAPES)))
    (ta26_SHAPES : K.lookup A26_SHAPES = some ⟨.type "tuple", oa26_SHAPES, .seq #[.ref B26_SHAPES, .none] na26_SHAPES, la26_SHAPES⟩)
    (tb26_SHAPES : K.lookup B26_SHAPES = some ⟨.type "tuple", ob26_SHAPES, .seq #[.str "name" kf0_26_SHAPES, .str "value" kf1_26_SHAPES] nb26_SHAPES, lb26_SHAPES⟩)
    (dm0_SHAPES : PySem.W.nsIn K D_SHAPES "weeks" = some none)
    (dm1_SHAPES : PySem.W.nsIn K D_SHAPES "Week" = some none)
    (dm2_SHAPES : PySem.W.nsIn K D_SHAPES "rout" = some none)
    (dm3_SHAPES : PySem.W.nsIn K D_SHAPES "routes" = some none)
    (dm4_SHAPES : PySem.W.nsIn K D_SHAPES "_" = some none)
    (dm5_SHAPES : PySem.W.nsIn K D_SHAPES "expression" = some none)
    (dm6_SHAPES : PySem.W.nsIn K D_SHAPES "in" = some none)
    (dm7_SHAPES : PySem.W.nsIn K D_SHAPES "not" = some none)
    (dm8_SHAPES : PySem.W.nsIn K D_SHAPES "-" = some none)
    (dm9_SHAPES : PySem.W.nsIn K D_SHAPES "labels" = some none)
    (dm10_SHAPES : PySem.W.nsIn K D_SHAPES "x" = some none)
    (T12 : PySem.W.CodeHd h ct12_ pt12_ ∧ h.get? pt12_ = some (PySem.W.tabObj #[]))
    (T14 : PySem.W.CodeHd h ct14_ pt14_ ∧ h.get? pt14_ = some (PySem.W.tabObj #[])) :
    LamX.LawAtS l w K CX0 6 63 "script" mg fa h := by
  have e := hfa.symm.trans (PySem.W.mg_of X G a17)
  cases e
  have Z : Zb mg := ⟨PySem.W.mg_none_of X G z1, PySem.W.mg_none_of X G z2, PySem.W.mg_none_of X G z3, PySem.W.mg_none_of X G z4, PySem.W.mg_none_of X G z5, PySem.W.mg_none_of X G z6, PySem.W.mg_none_of X G z7, PySem.W.mg_none_of X G z8, PySem.W.mg_none_of X G z9, PySem.W.mg_none_of X G z10, PySem.W.mg_none_of X G z11, PySem.W.mg_none_of X G z12, PySem.W.mg_none_of X G z13, PySem.W.mg_none_of X G z14, PySem.W.mg_none_of X G z15, PySem.W.mg_none_of X G z16, PySem.W.mg_none_of X G z17, PySem.W.mg_none_of X G z18, PySem.W.mg_none_of X G z19, PySem.W.mg_none_of X G z20⟩
  have F1 := fun_mk (st := s_l_law_draws) l1 c1 k1
  have b1 := F1.binds (ps := ["cell", "many"]) fun _ _ _ _ _ _ us hl => match us, hl with | [_, _], _ => rfl
  have F2 := fun_mk (st := s_l_law_first) l2 c2 k2
  have b2 := F2.binds (ps := ["draws"]) fun _ _ _ _ _ _ us hl => match us, hl with | [_], _ => rfl
  have F3 := fun_mk (st := s_l_law_shape) l3 c3 k3
  have b3 := F3.binds (ps := ["word"]) fun _ _ _ _ _ _ us hl => match us, hl with | [_], _ => rfl
  have F4 := fun_mk (st := s_l_law_further) l4 c4 k4
  have b4 := F4.binds (ps := ["word"]) fun _ _ _ _ _ _ us hl => match us, hl with | [_], _ => rfl
  have F5 := fun_mk (st := s_l_law_word) l5 c5 k5
  have b5 := F5.binds (ps := ["kind", "draw"]) fun _ _ _ _ _ _ us hl => match us, hl with | [_, _], _ => rfl
  have F6 := fun_mk (st := s_l_law_wrong) l6 c6 k6
  have b6 := F6.binds (ps := ["kind", "draw"]) fun _ _ _ _ _ _ us hl => match us, hl with | [_, _], _ => rfl
  have F7 := fun_mk (st := s_l_law_list) l7 c7 k7
  have b7 := F7.binds (ps := ["cell"]) fun _ _ _ _ _ _ us hl => match us, hl with | [_], _ => rfl
  have F8 := fun_mk (st := s_l_law_consists) l8 c8 k8
  have b8 := F8.binds (ps := ["text", "chars"]) fun _ _ _ _ _ _ us hl => match us, hl with | [_, _], _ => rfl
  have F9 := fun_mk (st := s_l_law_right) l9 c9 k9
  have b9 := F9.binds (ps := ["kind", "word"]) fun _ _ _ _ _ _ us hl => match us, hl with | [_, _], _ => rfl
  have F10 := fun_mk (st := s_l_law_checked) l10 c10 k10
  have b10 := F10.binds (ps := ["words"]) fun _ _ _ _ _ _ us hl => match us, hl with | [_], _ => rfl
  have F11 := fun_mk (st := s_sorts_for) l11 c11 k11
  have b11 := F11.binds (ps := ["word", "many"]) fun _ _ _ _ _ _ us hl => match us, hl with | [_, _], _ => rfl
  have t12 : PySem.W.tabIn K "is_value" = some (ct12_, pt12_) := tab_in a12 l12 rfl m12 v12
  have F12 := fun_mk (st := s_is_value) l12 c12 k12
  have b12 := F12.binds (ps := ["text"]) fun _ _ _ _ _ _ us hl => match us, hl with | [_], _ => rfl
  have F13 := fun_mk (st := s_is_name) l13 c13 k13
  have b13 := F13.binds (ps := ["text"]) fun _ _ _ _ _ _ us hl => match us, hl with | [_], _ => rfl
  have t14 : PySem.W.tabIn K "is_number" = some (ct14_, pt14_) := tab_in a14 l14 rfl m14 v14
  have F14 := fun_mk (st := s_is_number) l14 c14 k14
  have b14 := F14.binds (ps := ["text"]) fun _ _ _ _ _ _ us hl => match us, hl with | [_], _ => rfl
  have F15 := fun_mk (st := s_is_of_sort) l15 c15 k15
  have b15 := F15.binds (ps := ["sort", "text"]) fun _ _ _ _ _ _ us hl => match us, hl with | [_, _], _ => rfl
  have F16 := fun_mk (st := s_check_words) l16 c16 k16
  have b16 := F16.binds (ps := ["words"]) fun _ _ _ _ _ _ us hl => match us, hl with | [_], _ => rfl
  have F17 := fun_mk (st := s_law) l17 c17 k17
  refine ⟨PySem.W.fnOf "law" "law" (defArgs s_law) (defBody s_law) (defScope s_law) .none kV17 dc17 pm17 an17 cd17 ct17, [(ct12_, pt12_), (ct14_, pt14_)], spD K [pt12_, pt14_] R_law, (by intro p hp; simp only [List.mem_cons, List.not_mem_nil, or_false] at hp; rcases hp with rfl | rfl <;> first | exact T12.2 | exact T14.2), (by intro p hp; simp only [List.mem_cons, List.not_mem_nil, or_false] at hp; rcases hp with rfl | rfl <;> first | exact n12 | exact n14), (by intro p hp; simp only [List.mem_cons, List.not_mem_nil, or_false] at hp; rcases hp with rfl | rfl <;> first | exact T12.1 | exact T14.1), fun s v => .of_eq rfl, fun H a ns hl _ hT hS => ⟨DW.cut H, [.list (ns.map .int)], .bool true, DW.sub_cut H, ?_, DW.dp_script hS, ⟨ns, rfl, hl, rfl⟩, fun v F' H' _ hd => by cases hd; rfl⟩, fun base _ _ TBs => ?_⟩
  · intro p hp
    have hq : ∃ c, (c, p) ∈ ([(ct12_, pt12_), (ct14_, pt14_)] : List (Addr × Addr)) := by
      simp only [List.mem_cons, List.not_mem_nil, or_false] at hp
      rcases hp with rfl | rfl <;> exact ⟨_, by simp only [List.mem_cons, true_or, or_true]; first | exact .inl rfl | exact .inr (.inl rfl) | exact .inr (.inr (.inl rfl)) | exact .inr (.inr (.inr (.inl rfl)))⟩
    obtain ⟨c, hc⟩ := hq
    exact ⟨#[], hT _ hc, by first | trivial | simp [TriplesOk] | decide⟩
  have D1 := ok_draws (P := l.prog) (w := w) (K := K) (mg := mg) (base := base) (Tb := [pt12_, pt14_]) F1 (PySem.W.mg_of X G a1) b1 Z 
  have D2 := ok_fst (P := l.prog) (w := w) (K := K) (mg := mg) (base := base) (Tb := [pt12_, pt14_]) F2 (PySem.W.mg_of X G a2) b2 Z 
  have D3 := ok_shp (P := l.prog) (w := w) (K := K) (mg := mg) (base := base) (Tb := [pt12_, pt14_]) F3 (PySem.W.mg_of X G a3) b3 Z 
  have D4 := ok_fur (P := l.prog) (w := w) (K := K) (mg := mg) (base := base) (Tb := [pt12_, pt14_]) F4 (PySem.W.mg_of X G a4) b4 Z 
  have D5 := ok_word (P := l.prog) (w := w) (K := K) (mg := mg) (base := base) (Tb := [pt12_, pt14_]) F5 (PySem.W.mg_of X G a5) b5 Z 
  have D6 := ok_wrong (P := l.prog) (w := w) (K := K) (mg := mg) (base := base) (Tb := [pt12_, pt14_]) F6 (PySem.W.mg_of X G a6) b6 Z 
  have D7 := ok_list (P := l.prog) (w := w) (K := K) (mg := mg) (base := base) (Tb := [pt12_, pt14_]) F7 (PySem.W.mg_of X G a7) b7 Z D1 D2 D3 D4 D5 D6
  have D8 := ok_con (P := l.prog) (w := w) (K := K) (mg := mg) (base := base) (Tb := [pt12_, pt14_]) F8 (PySem.W.mg_of X G a8) b8 Z 
  have D9 := ok_rgt (P := l.prog) (w := w) (K := K) (mg := mg) (base := base) (Tb := [pt12_, pt14_]) F9 (PySem.W.mg_of X G a9) b9 Z D8
  have D10 := ok_lc (P := l.prog) (w := w) (K := K) (mg := mg) (base := base) (Tb := [pt12_, pt14_]) F10 (PySem.W.mg_of X G a10) b10 Z D3 D4 D9
  have D11 := ok_sf (P := l.prog) (w := w) (K := K) (mg := mg) (base := base) (Tb := [pt12_, pt14_]) F11 (PySem.W.mg_of X G a11) b11 Z ⟨PySem.W.mg_of X G da_SHAPES, ⟨⟨_, _, db_SHAPES, dc_SHAPES, dl_SHAPES⟩, has_all (show HasAll K _ T76 from ⟨sh_fact dv0_SHAPES ta0_SHAPES tb0_SHAPES (Nat.le_of_ble_eq_true rfl) (.cons ⟨_, rfl⟩ .nil) .non rfl (fun _ => .non), sh_fact dv1_SHAPES ta1_SHAPES tb1_SHAPES (Nat.le_of_ble_eq_true rfl) (.cons ⟨_, rfl⟩ .nil) .non rfl (fun _ => .non), sh_fact dv2_SHAPES ta2_SHAPES tb2_SHAPES (Nat.le_of_ble_eq_true rfl) (.cons ⟨_, rfl⟩ (.cons ⟨_, rfl⟩ (.cons ⟨_, rfl⟩ (.cons ⟨_, rfl⟩ .nil)))) .non rfl (fun _ => .non), sh_fact dv3_SHAPES ta3_SHAPES tb3_SHAPES (Nat.le_of_ble_eq_true rfl) (.cons ⟨_, rfl⟩ (.cons ⟨_, rfl⟩ (.cons ⟨_, rfl⟩ .nil))) .non rfl (fun _ => .non), sh_fact dv4_SHAPES ta4_SHAPES tb4_SHAPES (Nat.le_of_ble_eq_true rfl) (.cons ⟨_, rfl⟩ (.cons ⟨_, rfl⟩ .nil)) .non rfl (fun _ => .non), sh_fact dv5_SHAPES ta5_SHAPES tb5_SHAPES (Nat.le_of_ble_eq_true rfl) (.cons ⟨_, rfl⟩ .nil) .non rfl (fun _ => .non), sh_fact dv6_SHAPES ta6_SHAPES tb6_SHAPES (Nat.le_of_ble_eq_true rfl) (.cons ⟨_, rfl⟩ .nil) .non rfl (fun _ => .non), sh_fact dv7_SHAPES ta7_SHAPES tb7_SHAPES (Nat.le_of_ble_eq_true rfl) (.cons ⟨_, rfl⟩ .nil) .non rfl (fun _ => .non), sh_fact dv8_SHAPES ta8_SHAPES tb8_SHAPES (Nat.le_of_ble_eq_true rfl) .nil .non rfl (fun _ => .non), sh_fact dv9_SHAPES ta9_SHAPES tb9_SHAPES (Nat.le_of_ble_eq_true rfl) (.cons ⟨_, rfl⟩ (.cons ⟨_, rfl⟩ (.cons ⟨_, rfl⟩ .nil))) .non rfl (fun _ => .non), sh_fact dv10_SHAPES ta10_SHAPES tb10_SHAPES (Nat.le_of_ble_eq_true rfl) (.cons ⟨_, rfl⟩ (.cons ⟨_, rfl⟩ (.cons ⟨_, rfl⟩ .nil))) (.str "name") ⟨_, rfl⟩ (fun _ => .str _), sh_fact dv11_SHAPES ta11_SHAPES tb11_SHAPES (Nat.le_of_ble_eq_true rfl) (.cons ⟨_, rfl⟩ (.cons ⟨_, rfl⟩ .nil)) .non rfl (fun _ => .non), sh_fact dv12_SHAPES ta12_SHAPES tb12_SHAPES (Nat.le_of_ble_eq_true rfl) (.cons ⟨_, rfl⟩ (.cons ⟨_, rfl⟩ (.cons ⟨_, rfl⟩ .nil))) .non rfl (fun _ => .non), sh_fact dv13_SHAPES ta13_SHAPES tb13_SHAPES (Nat.le_of_ble_eq_true rfl) (.cons ⟨_, rfl⟩ (.cons ⟨_, rfl⟩ .nil)) .non rfl (fun _ => .non), sh_fact dv14_SHAPES ta14_SHAPES tb14_SHAPES (Nat.le_of_ble_eq_true rfl) (.cons ⟨_, rfl⟩ (.cons ⟨_, rfl⟩ (.cons ⟨_, rfl⟩ .nil))) (.str "value") ⟨_, rfl⟩ (fun _ => .str _), sh_fact dv15_SHAPES ta15_SHAPES tb15_SHAPES (Nat.le_of_ble_eq_true rfl) .nil (.str "name") ⟨_, rfl⟩ (fun _ => .str _), sh_fact dv16_SHAPES ta16_SHAPES tb16_SHAPES (Nat.le_of_ble_eq_true rfl) (.cons ⟨_, rfl⟩ .nil) .non rfl (fun _ => .non), sh_fact dv17_SHAPES ta17_SHAPES tb17_SHAPES (Nat.le_of_ble_eq_true rfl) (.cons ⟨_, rfl⟩ .nil) .non rfl (fun _ => .non), sh_fact dv18_SHAPES ta18_SHAPES tb18_SHAPES (Nat.le_of_ble_eq_true rfl) (.cons ⟨_, rfl⟩ .nil) .non rfl (fun _ => .non), sh_fact dv19_SHAPES ta19_SHAPES tb19_SHAPES (Nat.le_of_ble_eq_true rfl) .nil (.str "name") ⟨_, rfl⟩ (fun _ => .str _), sh_fact dv20_SHAPES ta20_SHAPES tb20_SHAPES (Nat.le_of_ble_eq_true rfl) (.cons ⟨_, rfl⟩ .nil) .non rfl (fun _ => .non), sh_fact dv21_SHAPES ta21_SHAPES tb21_SHAPES (Nat.le_of_ble_eq_true rfl) (.cons ⟨_, rfl⟩ (.cons ⟨_, rfl⟩ (.cons ⟨_, rfl⟩ .nil))) (.str "value") ⟨_, rfl⟩ (fun _ => .str _), sh_fact dv22_SHAPES ta22_SHAPES tb22_SHAPES (Nat.le_of_ble_eq_true rfl) (.cons ⟨_, rfl⟩ (.cons ⟨_, rfl⟩ (.cons ⟨_, rfl⟩ .nil))) (.str "value") ⟨_, rfl⟩ (fun _ => .str _), sh_fact dv23_SHAPES ta23_SHAPES tb23_SHAPES (Nat.le_of_ble_eq_true rfl) .nil (.str "name") ⟨_, rfl⟩ (fun _ => .str _), sh_fact dv24_SHAPES ta24_SHAPES tb24_SHAPES (Nat.le_of_ble_eq_true rfl) (.cons ⟨_, rfl⟩ .nil) .non rfl (fun _ => .non), sh_fact dv25_SHAPES ta25_SHAPES tb25_SHAPES (Nat.le_of_ble_eq_true rfl) (.cons ⟨_, rfl⟩ (.cons ⟨_, rfl⟩ (.cons ⟨_, rfl⟩ .nil))) .non rfl (fun _ => .non), sh_fact dv26_SHAPES ta26_SHAPES tb26_SHAPES (Nat.le_of_ble_eq_true rfl) (.cons ⟨_, rfl⟩ (.cons ⟨_, rfl⟩ .nil)) .non rfl (fun _ => .non), trivial⟩), non_all (show NonAll K _ MS76 from ⟨dm0_SHAPES, dm1_SHAPES, dm2_SHAPES, dm3_SHAPES, dm4_SHAPES, dm5_SHAPES, dm6_SHAPES, dm7_SHAPES, dm8_SHAPES, dm9_SHAPES, dm10_SHAPES, trivial⟩)⟩⟩
  have D12 := ok_isv (P := l.prog) (w := w) (K := K) (mg := mg) (base := base) (Tb := [pt12_, pt14_]) F12 (PySem.W.mg_of X G a12) b12 Z a12 t12 (tab_gx (TBs (ct12_, pt12_) (by simp))) (by simp) ⟨_, PySem.W.mg_of X G c_LONGEST_WORD, ⟨_, rfl⟩⟩ ⟨_, PySem.W.mg_of X G c_CHARACTERS, ⟨_, rfl⟩⟩
  have D13 := ok_isn (P := l.prog) (w := w) (K := K) (mg := mg) (base := base) (Tb := [pt12_, pt14_]) F13 (PySem.W.mg_of X G a13) b13 Z ⟨_, PySem.W.mg_of X G c_LETTERS, ⟨_, rfl⟩⟩ D12
  have D14 := ok_num (P := l.prog) (w := w) (K := K) (mg := mg) (base := base) (Tb := [pt12_, pt14_]) F14 (PySem.W.mg_of X G a14) b14 Z a14 t14 (tab_gx (TBs (ct14_, pt14_) (by simp))) (by simp) ⟨_, PySem.W.mg_of X G c_MOST_DIGITS, ⟨_, rfl⟩⟩ ⟨_, PySem.W.mg_of X G c_DIGITS, ⟨_, rfl⟩⟩
  have D15 := ok_srt (P := l.prog) (w := w) (K := K) (mg := mg) (base := base) (Tb := [pt12_, pt14_]) F15 (PySem.W.mg_of X G a15) b15 Z ⟨_, PySem.W.mg_of X G c_EMPTY_VALUE, ⟨_, rfl⟩⟩ ⟨PySem.W.mg_of X G ua_TESTS, _, _, _, ub_TESTS, rfl, rfl, Nat.le_of_ble_eq_true rfl, (.cons ⟨_, rfl⟩ (.cons ⟨_, rfl⟩ .nil))⟩ D12 D13 D14
  have D16 := ok_cw (P := l.prog) (w := w) (K := K) (mg := mg) (base := base) (Tb := [pt12_, pt14_]) F16 (PySem.W.mg_of X G a16) b16 Z ⟨PySem.W.mg_of X G da_SHAPES, ⟨⟨_, _, db_SHAPES, dc_SHAPES, dl_SHAPES⟩, has_all (show HasAll K _ T76 from ⟨sh_fact dv0_SHAPES ta0_SHAPES tb0_SHAPES (Nat.le_of_ble_eq_true rfl) (.cons ⟨_, rfl⟩ .nil) .non rfl (fun _ => .non), sh_fact dv1_SHAPES ta1_SHAPES tb1_SHAPES (Nat.le_of_ble_eq_true rfl) (.cons ⟨_, rfl⟩ .nil) .non rfl (fun _ => .non), sh_fact dv2_SHAPES ta2_SHAPES tb2_SHAPES (Nat.le_of_ble_eq_true rfl) (.cons ⟨_, rfl⟩ (.cons ⟨_, rfl⟩ (.cons ⟨_, rfl⟩ (.cons ⟨_, rfl⟩ .nil)))) .non rfl (fun _ => .non), sh_fact dv3_SHAPES ta3_SHAPES tb3_SHAPES (Nat.le_of_ble_eq_true rfl) (.cons ⟨_, rfl⟩ (.cons ⟨_, rfl⟩ (.cons ⟨_, rfl⟩ .nil))) .non rfl (fun _ => .non), sh_fact dv4_SHAPES ta4_SHAPES tb4_SHAPES (Nat.le_of_ble_eq_true rfl) (.cons ⟨_, rfl⟩ (.cons ⟨_, rfl⟩ .nil)) .non rfl (fun _ => .non), sh_fact dv5_SHAPES ta5_SHAPES tb5_SHAPES (Nat.le_of_ble_eq_true rfl) (.cons ⟨_, rfl⟩ .nil) .non rfl (fun _ => .non), sh_fact dv6_SHAPES ta6_SHAPES tb6_SHAPES (Nat.le_of_ble_eq_true rfl) (.cons ⟨_, rfl⟩ .nil) .non rfl (fun _ => .non), sh_fact dv7_SHAPES ta7_SHAPES tb7_SHAPES (Nat.le_of_ble_eq_true rfl) (.cons ⟨_, rfl⟩ .nil) .non rfl (fun _ => .non), sh_fact dv8_SHAPES ta8_SHAPES tb8_SHAPES (Nat.le_of_ble_eq_true rfl) .nil .non rfl (fun _ => .non), sh_fact dv9_SHAPES ta9_SHAPES tb9_SHAPES (Nat.le_of_ble_eq_true rfl) (.cons ⟨_, rfl⟩ (.cons ⟨_, rfl⟩ (.cons ⟨_, rfl⟩ .nil))) .non rfl (fun _ => .non), sh_fact dv10_SHAPES ta10_SHAPES tb10_SHAPES (Nat.le_of_ble_eq_true rfl) (.cons ⟨_, rfl⟩ (.cons ⟨_, rfl⟩ (.cons ⟨_, rfl⟩ .nil))) (.str "name") ⟨_, rfl⟩ (fun _ => .str _), sh_fact dv11_SHAPES ta11_SHAPES tb11_SHAPES (Nat.le_of_ble_eq_true rfl) (.cons ⟨_, rfl⟩ (.cons ⟨_, rfl⟩ .nil)) .non rfl (fun _ => .non), sh_fact dv12_SHAPES ta12_SHAPES tb12_SHAPES (Nat.le_of_ble_eq_true rfl) (.cons ⟨_, rfl⟩ (.cons ⟨_, rfl⟩ (.cons ⟨_, rfl⟩ .nil))) .non rfl (fun _ => .non), sh_fact dv13_SHAPES ta13_SHAPES tb13_SHAPES (Nat.le_of_ble_eq_true rfl) (.cons ⟨_, rfl⟩ (.cons ⟨_, rfl⟩ .nil)) .non rfl (fun _ => .non), sh_fact dv14_SHAPES ta14_SHAPES tb14_SHAPES (Nat.le_of_ble_eq_true rfl) (.cons ⟨_, rfl⟩ (.cons ⟨_, rfl⟩ (.cons ⟨_, rfl⟩ .nil))) (.str "value") ⟨_, rfl⟩ (fun _ => .str _), sh_fact dv15_SHAPES ta15_SHAPES tb15_SHAPES (Nat.le_of_ble_eq_true rfl) .nil (.str "name") ⟨_, rfl⟩ (fun _ => .str _), sh_fact dv16_SHAPES ta16_SHAPES tb16_SHAPES (Nat.le_of_ble_eq_true rfl) (.cons ⟨_, rfl⟩ .nil) .non rfl (fun _ => .non), sh_fact dv17_SHAPES ta17_SHAPES tb17_SHAPES (Nat.le_of_ble_eq_true rfl) (.cons ⟨_, rfl⟩ .nil) .non rfl (fun _ => .non), sh_fact dv18_SHAPES ta18_SHAPES tb18_SHAPES (Nat.le_of_ble_eq_true rfl) (.cons ⟨_, rfl⟩ .nil) .non rfl (fun _ => .non), sh_fact dv19_SHAPES ta19_SHAPES tb19_SHAPES (Nat.le_of_ble_eq_true rfl) .nil (.str "name") ⟨_, rfl⟩ (fun _ => .str _), sh_fact dv20_SHAPES ta20_SHAPES tb20_SHAPES (Nat.le_of_ble_eq_true rfl) (.cons ⟨_, rfl⟩ .nil) .non rfl (fun _ => .non), sh_fact dv21_SHAPES ta21_SHAPES tb21_SHAPES (Nat.le_of_ble_eq_true rfl) (.cons ⟨_, rfl⟩ (.cons ⟨_, rfl⟩ (.cons ⟨_, rfl⟩ .nil))) (.str "value") ⟨_, rfl⟩ (fun _ => .str _), sh_fact dv22_SHAPES ta22_SHAPES tb22_SHAPES (Nat.le_of_ble_eq_true rfl) (.cons ⟨_, rfl⟩ (.cons ⟨_, rfl⟩ (.cons ⟨_, rfl⟩ .nil))) (.str "value") ⟨_, rfl⟩ (fun _ => .str _), sh_fact dv23_SHAPES ta23_SHAPES tb23_SHAPES (Nat.le_of_ble_eq_true rfl) .nil (.str "name") ⟨_, rfl⟩ (fun _ => .str _), sh_fact dv24_SHAPES ta24_SHAPES tb24_SHAPES (Nat.le_of_ble_eq_true rfl) (.cons ⟨_, rfl⟩ .nil) .non rfl (fun _ => .non), sh_fact dv25_SHAPES ta25_SHAPES tb25_SHAPES (Nat.le_of_ble_eq_true rfl) (.cons ⟨_, rfl⟩ (.cons ⟨_, rfl⟩ (.cons ⟨_, rfl⟩ .nil))) .non rfl (fun _ => .non), sh_fact dv26_SHAPES ta26_SHAPES tb26_SHAPES (Nat.le_of_ble_eq_true rfl) (.cons ⟨_, rfl⟩ (.cons ⟨_, rfl⟩ .nil)) .non rfl (fun _ => .non), trivial⟩), non_all (show NonAll K _ MS76 from ⟨dm0_SHAPES, dm1_SHAPES, dm2_SHAPES, dm3_SHAPES, dm4_SHAPES, dm5_SHAPES, dm6_SHAPES, dm7_SHAPES, dm8_SHAPES, dm9_SHAPES, dm10_SHAPES, trivial⟩)⟩⟩ D11 D15
  exact ok_law (Tb := [pt12_, pt14_]) F17 Z D7 D10 D16
end K76
open PySem PySem.W PyProof.Rows
set_option maxHeartbeats 0 in
theorem PySem.Challenge.cw_watchfloor_k76_configuration_words_check_holds : PySem.Challenge.rw_watchfloor_k76_configuration_words_check.Holds := by
  w_on; o_law; k_head; (case hw => w_witness2)
  k_fill
  refine LamX.walk_ofTop (l := PySem.Challenge.rw_watchfloor_k76_configuration_words_check) (n := 63) (k := 6) (x := "script") (CX := fun _ => L2.CX0) rfl (by decide) rfl ⟨rfl, by decide, by decide⟩ (fun w h Y => PySem.W.kIn_of Y) ?F (fun _ _ _ _ _ h => h)
  case F =>
    intro w mg fa h Y KX G hmg TT
    refine' K76.all_mk KX G hmg ?a1 ?l1 ?c1 ?k1 ?a2 ?l2 ?c2 ?k2 ?a3 ?l3 ?c3 ?k3 ?a4 ?l4 ?c4 ?k4 ?a5 ?l5 ?c5 ?k5 ?a6 ?l6 ?c6 ?k6 ?a7 ?l7 ?c7 ?k7 ?a8 ?l8 ?c8 ?k8 ?a9 ?l9 ?c9 ?k9 ?a10 ?l10 ?c10 ?k10 ?a11 ?l11 ?c11 ?k11 ?a12 ?l12 ?c12 ?k12 ?a13 ?l13 ?c13 ?k13 ?a14 ?l14 ?c14 ?k14 ?a15 ?l15 ?c15 ?k15 ?a16 ?l16 ?c16 ?k16 ?a17 ?l17 ?c17 ?k17 ?m12 ?v12 ?n12 ?m14 ?v14 ?n14 ?z1 ?z2 ?z3 ?z4 ?z5 ?z6 ?z7 ?z8 ?z9 ?z10 ?z11 ?z12 ?z13 ?z14 ?z15 ?z16 ?z17 ?z18 ?z19 ?z20 ?c_LONGEST_WORD ?c_MOST_DIGITS ?c_CHARACTERS ?c_DIGITS ?c_EMPTY_VALUE ?c_LETTERS ?ua_TESTS ?ub_TESTS ?da_SHAPES ?db_SHAPES ?dc_SHAPES ?dl_SHAPES ?dv0_SHAPES ?ta0_SHAPES ?tb0_SHAPES ?dv1_SHAPES ?ta1_SHAPES ?tb1_SHAPES ?dv2_SHAPES ?ta2_SHAPES ?tb2_SHAPES ?dv3_SHAPES ?ta3_SHAPES ?tb3_SHAPES ?dv4_SHAPES ?ta4_SHAPES ?tb4_SHAPES ?dv5_SHAPES ?ta5_SHAPES ?tb5_SHAPES ?dv6_SHAPES ?ta6_SHAPES ?tb6_SHAPES ?dv7_SHAPES ?ta7_SHAPES ?tb7_SHAPES ?dv8_SHAPES ?ta8_SHAPES ?tb8_SHAPES ?dv9_SHAPES ?ta9_SHAPES ?tb9_SHAPES ?dv10_SHAPES ?ta10_SHAPES ?tb10_SHAPES ?dv11_SHAPES ?ta11_SHAPES ?tb11_SHAPES ?dv12_SHAPES ?ta12_SHAPES ?tb12_SHAPES ?dv13_SHAPES ?ta13_SHAPES ?tb13_SHAPES ?dv14_SHAPES ?ta14_SHAPES ?tb14_SHAPES ?dv15_SHAPES ?ta15_SHAPES ?tb15_SHAPES ?dv16_SHAPES ?ta16_SHAPES ?tb16_SHAPES ?dv17_SHAPES ?ta17_SHAPES ?tb17_SHAPES ?dv18_SHAPES ?ta18_SHAPES ?tb18_SHAPES ?dv19_SHAPES ?ta19_SHAPES ?tb19_SHAPES ?dv20_SHAPES ?ta20_SHAPES ?tb20_SHAPES ?dv21_SHAPES ?ta21_SHAPES ?tb21_SHAPES ?dv22_SHAPES ?ta22_SHAPES ?tb22_SHAPES ?dv23_SHAPES ?ta23_SHAPES ?tb23_SHAPES ?dv24_SHAPES ?ta24_SHAPES ?tb24_SHAPES ?dv25_SHAPES ?ta25_SHAPES ?tb25_SHAPES ?dv26_SHAPES ?ta26_SHAPES ?tb26_SHAPES ?dm0_SHAPES ?dm1_SHAPES ?dm2_SHAPES ?dm3_SHAPES ?dm4_SHAPES ?dm5_SHAPES ?dm6_SHAPES ?dm7_SHAPES ?dm8_SHAPES ?dm9_SHAPES ?dm10_SHAPES (TT _ "is_value" _ _ ?r12 (DW.tab_in ?a12 ?l12 rfl ?m12 ?v12)) (TT _ "is_number" _ _ ?r14 (DW.tab_in ?a14 ?l14 rfl ?m14 ?v14))
    (case a1 => k_is); (case l1 => k_is); (case c1 => k_is); (case k1 => k_is); (case a2 => k_is); (case l2 => k_is); (case c2 => k_is); (case k2 => k_is); (case a3 => k_is); (case l3 => k_is); (case c3 => k_is); (case k3 => k_is); (case a4 => k_is); (case l4 => k_is); (case c4 => k_is); (case k4 => k_is); (case a5 => k_is); (case l5 => k_is); (case c5 => k_is); (case k5 => k_is); (case a6 => k_is); (case l6 => k_is); (case c6 => k_is); (case k6 => k_is); (case a7 => k_is); (case l7 => k_is); (case c7 => k_is); (case k7 => k_is); (case a8 => k_is); (case l8 => k_is); (case c8 => k_is); (case k8 => k_is); (case a9 => k_is); (case l9 => k_is); (case c9 => k_is); (case k9 => k_is); (case a10 => k_is); (case l10 => k_is); (case c10 => k_is); (case k10 => k_is); (case a11 => k_is); (case l11 => k_is); (case c11 => k_is); (case k11 => k_is); (case a12 => k_is); (case l12 => k_is); (case c12 => k_is); (case k12 => k_is); (case a13 => k_is); (case l13 => k_is); (case c13 => k_is); (case k13 => k_is); (case a14 => k_is); (case l14 => k_is); (case c14 => k_is); (case k14 => k_is); (case a15 => k_is); (case l15 => k_is); (case c15 => k_is); (case k15 => k_is); (case a16 => k_is); (case l16 => k_is); (case c16 => k_is); (case k16 => k_is); (case a17 => k_is); (case l17 => k_is); (case c17 => k_is); (case k17 => k_is); (case m12 => k_is); (case v12 => first | rfl | k_is); (case n12 => first | rfl | kernel_rfl); (case m14 => k_is); (case v14 => first | rfl | k_is); (case n14 => first | rfl | kernel_rfl); (case z1 => k_is); (case z2 => k_is); (case z3 => k_is); (case z4 => k_is); (case z5 => k_is); (case z6 => k_is); (case z7 => k_is); (case z8 => k_is); (case z9 => k_is); (case z10 => k_is); (case z11 => k_is); (case z12 => k_is); (case z13 => k_is); (case z14 => k_is); (case z15 => k_is); (case z16 => k_is); (case z17 => k_is); (case z18 => k_is); (case z19 => k_is); (case z20 => k_is); (case c_LONGEST_WORD => k_is); (case c_MOST_DIGITS => k_is); (case c_CHARACTERS => k_is); (case c_DIGITS => k_is); (case c_EMPTY_VALUE => k_is); (case c_LETTERS => k_is); (case ua_TESTS => k_is); (case ub_TESTS => k_is); (case da_SHAPES => k_is); (case db_SHAPES => k_is); (case dc_SHAPES => ((repeat refine ⟨⟨_, _, rfl, rfl⟩, ?_⟩); trivial)); (case dl_SHAPES => first | rfl | decide | kernel_rfl); (case dv0_SHAPES => k_is); (case ta0_SHAPES => k_is); (case tb0_SHAPES => k_is); (case dv1_SHAPES => k_is); (case ta1_SHAPES => k_is); (case tb1_SHAPES => k_is); (case dv2_SHAPES => k_is); (case ta2_SHAPES => k_is); (case tb2_SHAPES => k_is); (case dv3_SHAPES => k_is); (case ta3_SHAPES => k_is); (case tb3_SHAPES => k_is); (case dv4_SHAPES => k_is); (case ta4_SHAPES => k_is); (case tb4_SHAPES => k_is); (case dv5_SHAPES => k_is); (case ta5_SHAPES => k_is); (case tb5_SHAPES => k_is); (case dv6_SHAPES => k_is); (case ta6_SHAPES => k_is); (case tb6_SHAPES => k_is); (case dv7_SHAPES => k_is); (case ta7_SHAPES => k_is); (case tb7_SHAPES => k_is); (case dv8_SHAPES => k_is); (case ta8_SHAPES => k_is); (case tb8_SHAPES => k_is); (case dv9_SHAPES => k_is); (case ta9_SHAPES => k_is); (case tb9_SHAPES => k_is); (case dv10_SHAPES => k_is); (case ta10_SHAPES => k_is); (case tb10_SHAPES => k_is); (case dv11_SHAPES => k_is); (case ta11_SHAPES => k_is); (case tb11_SHAPES => k_is); (case dv12_SHAPES => k_is); (case ta12_SHAPES => k_is); (case tb12_SHAPES => k_is); (case dv13_SHAPES => k_is); (case ta13_SHAPES => k_is); (case tb13_SHAPES => k_is); (case dv14_SHAPES => k_is); (case ta14_SHAPES => k_is); (case tb14_SHAPES => k_is); (case dv15_SHAPES => k_is); (case ta15_SHAPES => k_is); (case tb15_SHAPES => k_is); (case dv16_SHAPES => k_is); (case ta16_SHAPES => k_is); (case tb16_SHAPES => k_is); (case dv17_SHAPES => k_is); (case ta17_SHAPES => k_is); (case tb17_SHAPES => k_is); (case dv18_SHAPES => k_is); (case ta18_SHAPES => k_is); (case tb18_SHAPES => k_is); (case dv19_SHAPES => k_is); (case ta19_SHAPES => k_is); (case tb19_SHAPES => k_is); (case dv20_SHAPES => k_is); (case ta20_SHAPES => k_is); (case tb20_SHAPES => k_is); (case dv21_SHAPES => k_is); (case ta21_SHAPES => k_is); (case tb21_SHAPES => k_is); (case dv22_SHAPES => k_is); (case ta22_SHAPES => k_is); (case tb22_SHAPES => k_is); (case dv23_SHAPES => k_is); (case ta23_SHAPES => k_is); (case tb23_SHAPES => k_is); (case dv24_SHAPES => k_is); (case ta24_SHAPES => k_is); (case tb24_SHAPES => k_is); (case dv25_SHAPES => k_is); (case ta25_SHAPES => k_is); (case tb25_SHAPES => k_is); (case dv26_SHAPES => k_is); (case ta26_SHAPES => k_is); (case tb26_SHAPES => k_is); (case dm0_SHAPES => k_is); (case dm1_SHAPES => k_is); (case dm2_SHAPES => k_is); (case dm3_SHAPES => k_is); (case dm4_SHAPES => k_is); (case dm5_SHAPES => k_is); (case dm6_SHAPES => k_is); (case dm7_SHAPES => k_is); (case dm8_SHAPES => k_is); (case dm9_SHAPES => k_is); (case dm10_SHAPES => k_is)
    (case r12 => first | rfl | k_is | decide)
    (case r14 => first | rfl | k_is | decide)
