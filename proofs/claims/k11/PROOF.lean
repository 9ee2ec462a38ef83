import PyProof.Rows.All
import Wide.All
import OpenK.AllK
import Wide.FinOn
import HandS.ForMost
import HandS.AnyAll
import HandS.Conv
import HandS.IsInst
import HandS.Flow
import HandS.Walk
import HandS.Evl
import HandS.SortOrd
import KE.KSortTupG
import HandS.TupLe
import HandS.More
import HandS.ExcIs
import HandS.ExcField
import HandS.ExcInit
import HandS.WordsExc
import HandS.ExcOwn
import HandS.TupAny
import HandS.GenList
import HandS.EndTab
import HandS.SortKw
import HandS.Rev
import KE.DataMinMax
import KE.DataEq
import KE.SortData
import HandS.NoneIn
import HandS.Gcd
import HandS.SetKeys
import HandS.ListItems
import HandS.Flt
import KE.KDictKeyed
import HandS.DictComp
import KE.LtData
import HandS.TupLen
import HandS.FStr
import HandS.Text
import HandS.RaiseMore
import KE.KItemsList
import PyProof.Transfer
import KE.KDictCopyH
import KE.KDictSum
import HandS.Style
import HandS.TryMany
import HandS.SetFor
import KE.DataFind
import HandS.Wide
import HandS.Iter
import HandS.SetTxt0
import HandS.Strs
import HandS.WrittenGet
import HandS.Defaults
import HandS.MakeKwOnly
import HandS.WideBits
import HandS.CallLocal
import HandS.ReplaceDef
import HandS.ReplaceLit
import HandS.ReplaceList
import HandS.TupSets
import KE.KDictDisplayH
import KE.KIntText
import PySem.Challenge.RW_watchfloor_k11_language_limits
set_option Elab.async false
set_option linter.all false
set_option maxRecDepth 100000
set_option maxHeartbeats 2000000
/-! DW: walks by data. F: the part of the heap that stays, H: all of it. -/
namespace DW
open PySem PySem.Spec PyProof.Rows L2
/-- what stands in F stands in H (tables may grow) -/
def Ex (F H : Hp) : Prop := ∀ a o, F a = some o → (∀ ps, o ≠ .tbl ps) → H a = some o
theorem Ex.refl (F : Hp) : Ex F F := fun _ _ h _ => h
theorem Ex.trans {F G H : Hp} (a : Ex F G) (b : Ex G H) : Ex F H := fun x o h n => b x o (a x o h n) n
theorem Ex.lst {F H : Hp} (e : Ex F H) {p : Addr} {xs : List V} (h : F p = some (.lst xs)) : H p = some (.lst xs) := e p _ h fun _ z => by cases z
theorem Ex.dk {F H : Hp} (e : Ex F H) {p : Addr} {xs : List (Key × V)} (h : F p = some (.dK xs)) : H p = some (.dK xs) := e p _ h fun _ z => by cases z
theorem Ex.rd {F H : Hp} (e : Ex F H) {a : Addr} {u : HO} (h : Rd F a u) (n : ∀ ps, u ≠ .tbl ps) : Rd H a u := by
  rcases h with h | ⟨o, h⟩
  · exact .inl (e a _ h n)
  · exact .inr ⟨o, e a _ h fun _ z => by cases z⟩
theorem Ex.l {K : PySem.W.Frag} {F H : Hp} {a : Addr} {xs : List V} (e : Ex F H) (h : SqL K F a xs) : SqL K H a xs := by
  rcases h with h | h
  · exact .inl (e.rd h fun _ z => by cases z)
  · exact .inr h
theorem Ex.t {K : PySem.W.Frag} {F H : Hp} {a : Addr} {xs : List V} (e : Ex F H) (h : SqT K F a xs) : SqT K H a xs := by
  rcases h with h | h
  · exact .inl (e.rd h fun _ z => by cases z)
  · exact .inr h
mutual
theorem Ex.dp {K : PySem.W.Frag} {F H : Hp} (e : Ex F H) : ∀ (d : PyData) (v : V), Dp K F v d → Dp K H v d
  | .none, _, h => by cases h; exact .non
  | .bool b, _, h => by cases h; exact .bl b
  | .int i, _, h => by cases h; exact .int i
  | .str x, _, h => by cases h; exact .str x
  | .list ds, _, h => by
    cases h with
    | lst h1 h2 => exact .lst (e.l h1) (Ex.dps e ds _ h2)
  | .tuple ds, _, h => by
    cases h with
    | tup h1 h2 => exact .tup (e.t h1) (Ex.dps e ds _ h2)
  | .dict _, _, h => by cases h
theorem Ex.dps {K : PySem.W.Frag} {F H : Hp} (e : Ex F H) : ∀ (ds : List PyData) (vs : List V), DpAll K F vs ds → DpAll K H vs ds
  | [], _, h => by cases h; exact .nil
  | d :: ds, _, h => by
    cases h with
    | cons h1 h2 => exact .cons (Ex.dp e d _ h1) (Ex.dps e ds _ h2)
end
section
variable {K : PySem.W.Frag} {F H : Hp} {v : V} {d : PyData} {vs : List V} {ds : List PyData}
theorem dps_len : ∀ {vs : List V} {ds : List PyData}, DpAll K F vs ds → vs.length = ds.length
  | _, _, .nil => rfl
  | _, _, .cons _ t => by rw [List.length_cons, List.length_cons, dps_len t]
theorem dps_get : ∀ {vs : List V} {ds : List PyData} {i : Nat} {d : PyData}, DpAll K F vs ds → ds[i]? = some d → ∃ v, vs[i]? = some v ∧ Dp K F v d
  | _, _, _, _, .nil, e => by simp at e
  | _, _, 0, _, .cons h _, e => by simp at e; subst e; exact ⟨_, rfl, h⟩
  | _, _, i + 1, d, .cons _ t, e => by
    obtain ⟨v, h1, h2⟩ := dps_get (i := i) (d := d) t (by simpa using e)
    exact ⟨v, by simpa using h1, h2⟩
theorem dps_app : ∀ {vs ws : List V} {ds es : List PyData}, DpAll K F vs ds → DpAll K F ws es → DpAll K F (vs ++ ws) (ds ++ es)
  | _, _, _, _, .nil, h => h
  | _, _, _, _, .cons a t, h => .cons a (dps_app t h)
theorem dps_take : ∀ {vs : List V} {ds : List PyData} (n : Nat), DpAll K F vs ds → DpAll K F (vs.take n) (ds.take n)
  | _, _, 0, _ => .nil
  | _, _, _ + 1, .nil => .nil
  | _, _, n + 1, .cons a t => .cons a (dps_take n t)
theorem dps_drop : ∀ {vs : List V} {ds : List PyData} (n : Nat), DpAll K F vs ds → DpAll K F (vs.drop n) (ds.drop n)
  | _, _, 0, h => h
  | _, _, _ + 1, .nil => .nil
  | _, _, n + 1, .cons _ t => dps_drop n t
theorem dp_sq (h : Dp K F v (.list ds)) : ∃ a vs, v = .ref a ∧ SqL K F a vs ∧ DpAll K F vs ds := by
  cases h with
  | lst h1 h2 => exact ⟨_, _, rfl, h1, h2⟩
theorem dp_tq (h : Dp K F v (.tuple ds)) : ∃ a vs, v = .ref a ∧ SqT K F a vs ∧ DpAll K F vs ds := by
  cases h with
  | tup h1 h2 => exact ⟨_, _, rfl, h1, h2⟩
end
/-- a value that needs no heap -/
def scalD : PyData → Bool
  | .none => true
  | .bool _ => true
  | .int _ => true
  | .str _ => true
  | _ => false
theorem dp_scal {K : PySem.W.Frag} {F H : Hp} {v : V} : ∀ {d : PyData}, scalD d = true → Dp K H v d → Dp K F v d
  | .none, _, h => by cases h; exact .non
  | .bool b, _, h => by cases h; exact .bl b
  | .int i, _, h => by cases h; exact .int i
  | .str x, _, h => by cases h; exact .str x
  | .list _, e, _ => by cases e
  | .tuple _, e, _ => by cases e
  | .dict _, e, _ => by cases e
/-- F is a part of H, without tables -/
structure Sub (F H : Hp) : Prop where
  ex : Ex F H
  nt : ∀ a ps, F a ≠ some (.tbl ps)
theorem Sub.free {F H : Hp} (e : Sub F H) {p : Addr} (h : H p = none) : F p = none := by
  cases q : F p with
  | none => rfl
  | some o => rw [e.ex p o q (fun ps z => e.nt p ps (by rw [q, z]))] at h; cases h
/-- H without its tables -/
def cut (H : Hp) : Hp := fun a => match H a with
  | some (.tbl _) => none
  | o => o
theorem cut_of {H : Hp} {a : Addr} {o : HO} (h : H a = some o) (n : ∀ ps, o ≠ .tbl ps) : cut H a = some o := by
  unfold cut; rw [h]; cases o <;> first | rfl | exact absurd rfl (n _)
theorem of_cut {H : Hp} {a : Addr} {o : HO} (h : cut H a = some o) : H a = some o ∧ ∀ ps, o ≠ .tbl ps := by
  unfold cut at h
  cases q : H a with
  | none => rw [q] at h; cases h
  | some u =>
    rw [q] at h
    cases u <;> first | (cases h; exact ⟨rfl, fun _ z => by cases z⟩) | cases h
theorem ex_cut (H : Hp) : Ex H (cut H) := fun _ _ h n => cut_of h n
theorem sub_cut (H : Hp) : Sub (cut H) H := ⟨fun _ _ h _ => (of_cut h).1, fun _ ps h => (of_cut h).2 ps rfl⟩
/-- from (F, H) to (F', H'): nothing that stood changes (tables grow), what was ours stays out of F -/
structure Stp (F H F' H' : Hp) : Prop where
  f : Ex F F'
  i : Sub F' H'
  h : Ex H H'
  s : ∀ a o, H a = some o → ∃ o', H' a = some o'
  t : ∀ P, GxR.TabG H P → GxR.TabG H' P
  n : ∀ a o, H a = some o → F a = none → F' a = none
section
variable {F H F1 H1 F2 H2 : Hp} {p : Addr} {o : HO}
theorem Stp.refl (e : Sub F H) : Stp F H F H := ⟨Ex.refl F, e, Ex.refl H, fun _ o h => ⟨o, h⟩, fun _ h => h, fun _ _ _ h => h⟩
theorem Stp.trans (a : Stp F H F1 H1) (b : Stp F1 H1 F2 H2) : Stp F H F2 H2 :=
  ⟨a.f.trans b.f, b.i, a.h.trans b.h, fun x o h => let ⟨o', h'⟩ := a.s x o h; b.s x o' h', fun P h => b.t P (a.t P h), fun x o h n => let ⟨o', h'⟩ := a.s x o h; b.n x o' h' (a.n x o h n)⟩
theorem tab_upd (h : H p = none) {P : Addr} (t : GxR.TabG H P) : GxR.TabG (upd H p o) P := by
  obtain ⟨ps, e, r⟩ := t
  exact ⟨ps, by rw [upd_ne (ne_of_none e h)]; exact e, r⟩
/-- a new object, ours alone -/
theorem Stp.mine (e : Sub F H) (h : H p = none) : Stp F H F (upd H p o) :=
  ⟨Ex.refl F, ⟨fun a u q n => by have := e.ex a u q n; rw [upd_ne (ne_of_none this h)]; exact this, e.nt⟩, fun a u q _ => by rw [upd_ne (ne_of_none q h)]; exact q,
    fun a u q => ⟨u, by rw [upd_ne (ne_of_none q h)]; exact q⟩, fun _ t => tab_upd h t, fun _ _ _ n => n⟩
/-- a new object for good -/
theorem Stp.new (e : Sub F H) (h : H p = none) (ho : ∀ ps, o ≠ .tbl ps) : Stp F H (upd F p o) (upd H p o) := by
  refine ⟨fun a u q n => ?_, ⟨fun a u q n => ?_, fun a ps q => ?_⟩, fun a u q _ => by rw [upd_ne (ne_of_none q h)]; exact q, fun a u q => ⟨u, by rw [upd_ne (ne_of_none q h)]; exact q⟩, fun _ t => tab_upd h t, fun a u q n => ?_⟩
  · have := e.ex a u q n
    rw [upd_ne (ne_of_none this h)]; exact q
  · by_cases ha : a = p
    · subst ha; rw [upd_same] at q ⊢; exact q
    · rw [upd_ne ha] at q ⊢; exact e.ex a u q n
  · by_cases ha : a = p
    · subst ha; rw [upd_same] at q; cases q; exact ho ps rfl
    · rw [upd_ne ha] at q; exact e.nt a ps q
  · rw [upd_ne (ne_of_none q h)]; exact n
end
/-! ### what the slots hold -/
inductive Sl where
  | un
  | fz (d : PyData)
  | ow (ds : List PyData)
  | raw (v : V)
  | od (kvs : List (Str × PyData))
  | fk (kvs : List (Str × PyData))
  | ob (C : Addr → Hp → HO → Prop)
def Sl.mine : Sl → Bool
  | .ow _ => true
  | .od _ => true
  | .ob _ => true
  | _ => false
/-- a dict with text keys -/
structure KvOk (K : PySem.W.Frag) (F : Hp) (vs : List (Key × V)) (kvs : List (Str × PyData)) : Prop where
  ks : vs.map (·.1) = kvs.map fun p => Sum.inr p.1
  ds : DpAll K F (vs.map (·.2)) (kvs.map (·.2))
theorem KvOk.mono {K : PySem.W.Frag} {F H : Hp} {vs : List (Key × V)} {kvs : List (Str × PyData)} (e : Ex F H) (h : KvOk K F vs kvs) : KvOk K H vs kvs := ⟨h.ks, e.dps _ _ h.ds⟩
def SlOk (K : PySem.W.Frag) (H0 F H : Hp) (o : Option V) : Sl → Prop
  | .un => True
  | .fz d => ∃ v, o = some v ∧ Dp K F v d
  | .ow ds => ∃ p vs, o = some (.ref p) ∧ H0 p = none ∧ F p = none ∧ H p = some (.lst vs) ∧ DpAll K F vs ds
  | .raw v => o = some v
  | .od kvs => ∃ p vs, o = some (.ref p) ∧ H0 p = none ∧ F p = none ∧ H p = some (.dK vs) ∧ KvOk K F vs kvs
  | .fk kvs => ∃ p vs, o = some (.ref p) ∧ Rd F p (.dK vs) ∧ KvOk K F vs kvs
  | .ob C => ∃ p u, o = some (.ref p) ∧ H0 p = none ∧ F p = none ∧ H p = some u ∧ (∀ ps, u ≠ .tbl ps) ∧ ∀ F', Ex F F' → C p F' u
/-- the ground: written part, tables, the heaps at the entry -/
structure Gd where
  K : PySem.W.Frag
  T : List Addr
  F0 : Hp
  H0 : Hp
  Fl : Hp
structure Holds (g : Gd) (G : List Sl) (σ : L2.St) (F H : Hp) : Prop where
  len : σ.length = G.length
  st : Stp g.F0 g.H0 F H
  sl : ∀ (i : Nat) (s : Sl) (o : Option V), G[i]? = some s → σ[i]? = some o → SlOk g.K g.H0 F H o s
  apart : ∀ (i j : Nat) (s t : Sl) (p : Addr), G[i]? = some s → G[j]? = some t → s.mine = true → t.mine = true → σ[i]? = some (some (.ref p)) → σ[j]? = some (some (.ref p)) → i = j
  tab : ∀ P ∈ g.T, GxR.TabG H P
  lo : Ex g.Fl F
section
variable {g : Gd} {G : List Sl} {σ : L2.St} {F H F' H' : Hp} {i : Nat}
theorem Holds.at_ (h : Holds g G σ F H) {s : Sl} (e : G[i]? = some s) : ∃ o, σ[i]? = some o ∧ SlOk g.K g.H0 F H o s := by
  have hi : i < σ.length := by rw [h.len]; exact (List.getElem?_eq_some_iff.mp e).1
  exact ⟨σ[i], List.getElem?_eq_getElem hi, h.sl i s _ e (List.getElem?_eq_getElem hi)⟩
theorem SlOk.mono {K : PySem.W.Frag} {H0 : Hp} {o : Option V} (s : Stp F H F' H') : ∀ {x : Sl}, SlOk K H0 F H o x → SlOk K H0 F' H' o x
  | .un, _ => trivial
  | .fz d, ⟨v, e, h⟩ => ⟨v, e, s.f.dp d v h⟩
  | .ow ds, ⟨p, vs, e, h0, hF, hH, hd⟩ => ⟨p, vs, e, h0, s.n p _ hH hF, s.h.lst hH, s.f.dps ds vs hd⟩
  | .raw v, h => h
  | .od kvs, ⟨p, vs, e, h0, hF, hH, hd⟩ => ⟨p, vs, e, h0, s.n p _ hH hF, s.h.dk hH, hd.mono s.f⟩
  | .fk kvs, ⟨p, vs, e, hr, hd⟩ => ⟨p, vs, e, s.f.rd hr (fun _ z => by cases z), hd.mono s.f⟩
  | .ob C, ⟨p, u, e, h0, hF, hH, nt, hC⟩ => ⟨p, u, e, h0, s.n p _ hH hF, s.h p u hH nt, nt, fun F2 e2 => hC F2 (s.f.trans e2)⟩
theorem Holds.mono (h : Holds g G σ F H) (s : Stp F H F' H') : Holds g G σ F' H' :=
  ⟨h.len, h.st.trans s, fun i x o e1 e2 => (h.sl i x o e1 e2).mono s, h.apart, fun P hP => s.t P (h.tab P hP), h.lo.trans s.f⟩
/-- a slot set -/
theorem Holds.set (h : Holds g G σ F H) {v : V} {s : Sl} (hs : SlOk g.K g.H0 F H (some v) s) (hm : s.mine = true → ∀ (j : Nat) (t : Sl) , j ≠ i → G[j]? = some t → t.mine = true → σ[j]? ≠ some (some v)) : Holds g (G.set i s) (σ.set i (some v)) F H := by
  refine ⟨by rw [List.length_set, List.length_set]; exact h.len, h.st, fun j x o e1 e2 => ?_, fun j k x y p e1 e2 m1 m2 e3 e4 => ?_, h.tab, h.lo⟩
  · by_cases hj : i = j
    · subst hj
      have hi : i < G.length := by have := (List.getElem?_eq_some_iff.mp e1).1; rwa [List.length_set] at this
      rw [List.getElem?_set_self hi] at e1
      rw [List.getElem?_set_self (by rw [h.len]; exact hi)] at e2
      cases e1; cases e2; exact hs
    · rw [List.getElem?_set_ne hj] at e1 e2
      exact h.sl j x o e1 e2
  · by_cases hj : i = j
    · by_cases hk : i = k
      · exact hj.symm.trans hk
      · subst hj
        have hi : i < G.length := by have := (List.getElem?_eq_some_iff.mp e1).1; rwa [List.length_set] at this
        rw [List.getElem?_set_self hi] at e1
        rw [List.getElem?_set_self (by rw [h.len]; exact hi)] at e3
        rw [List.getElem?_set_ne hk] at e2 e4
        cases e1; cases e3
        exact absurd e4 (hm m1 k y (Ne.symm hk) e2 m2)
    · by_cases hk : i = k
      · subst hk
        have hi : i < G.length := by have := (List.getElem?_eq_some_iff.mp e2).1; rwa [List.length_set] at this
        rw [List.getElem?_set_self hi] at e2
        rw [List.getElem?_set_self (by rw [h.len]; exact hi)] at e4
        rw [List.getElem?_set_ne hj] at e1 e3
        cases e2; cases e4
        exact absurd e3 (hm m2 j x (Ne.symm hj) e1 m1)
      · rw [List.getElem?_set_ne hj] at e1 e3
        rw [List.getElem?_set_ne hk] at e2 e4
        exact h.apart j k x y p e1 e2 m1 m2 e3 e4
theorem Holds.setF (h : Holds g G σ F H) {v : V} {d : PyData} (hd : Dp g.K F v d) : Holds g (G.set i (.fz d)) (σ.set i (some v)) F H :=
  h.set (s := .fz d) ⟨v, rfl, hd⟩ fun z => by cases z
/-- a list of ours that no slot holds -/
theorem Holds.setO (h : Holds g G σ F H) {p : Addr} {vs : List V} {ds : List PyData} (h0 : g.H0 p = none) (hF : F p = none) (hH : H p = some (.lst vs)) (hd : DpAll g.K F vs ds) (new : ∀ (j : Nat), j ≠ i → (∃ t, G[j]? = some t ∧ t.mine = true) → σ[j]? ≠ some (some (.ref p))) :
    Holds g (G.set i (.ow ds)) (σ.set i (some (.ref p))) F H :=
  h.set (s := .ow ds) ⟨p, vs, rfl, h0, hF, hH, hd⟩ fun _ j t hj e m => new j hj ⟨t, e, m⟩
/-- forgetting -/
theorem Holds.weak (h : Holds g G σ F H) {G' : List Sl} (hl : G'.length = G.length) (w : ∀ (j : Nat) (s : Sl), G'[j]? = some s → s = .un ∨ G[j]? = some s) : Holds g G' σ F H := by
  refine ⟨h.len.trans hl.symm, h.st, fun j s o e1 e2 => ?_, fun j k s t p e1 e2 m1 m2 e3 e4 => ?_, h.tab, h.lo⟩
  · rcases w j s e1 with rfl | e
    · trivial
    · exact h.sl j s o e e2
  · rcases w j s e1 with rfl | e
    · cases m1
    · rcases w k t e2 with rfl | e'
      · cases m2
      · exact h.apart j k s t p e e' m1 m2 e3 e4
end
/-! ### the judgements -/
/-- te gives d, for good -/
def E (g : Gd) (te : TE) (G : List Sl) (d : PyData) : Prop := ∀ σ F H, Holds g G σ F H → ∀ Q : VK, (∀ v F' H', Stp F H F' H' → Dp g.K F' v d → Q v H') → te σ H Q
/-- te gives d, for the moment -/
def B (g : Gd) (te : TE) (G : List Sl) (d : PyData) : Prop := ∀ σ F H, Holds g G σ F H → ∀ Q : VK, (∀ v F' H', Stp F H F' H' → Dp g.K H' v d → Q v H') → te σ H Q
/-- te gives a new list of ours -/
def EL (g : Gd) (te : TE) (G : List Sl) (ds : List PyData) : Prop := ∀ σ F H, Holds g G σ F H → ∀ Q : VK, (∀ p vs F' H', Stp F H F' H' → H p = none → F' p = none → H' p = some (.lst vs) → DpAll g.K F' vs ds → Q (.ref p) H') → te σ H Q
def T (g : Gd) (tt : TT) (G : List Sl) (b : Bool) : Prop := ∀ σ F H, Holds g G σ F H → ∀ Q : Bool → Hp → Prop, (∀ F' H', Stp F H F' H' → Q b H') → tt σ H Q
def A (g : Gd) (ta : TA) (G : List Sl) (ds : List PyData) : Prop := ∀ σ F H, Holds g G σ F H → ∀ Q : List V → Hp → Prop, (∀ vs F' H', Stp F H F' H' → DpAll g.K F' vs ds → Q vs H') → ta σ H Q
def AB (g : Gd) (ta : TA) (G : List Sl) (ds : List PyData) : Prop := ∀ σ F H, Holds g G σ F H → ∀ Q : List V → Hp → Prop, (∀ vs F' H', Stp F H F' H' → DpAll g.K H' vs ds → Q vs H') → ta σ H Q
/-- a two-place operation on data -/
def R (g : Gd) (r : R2) (x y d : PyData) : Prop := ∀ u v F H, Sub F H → Dp g.K F u x → Dp g.K F v y → ∀ Q : VK, (∀ z F' H', Stp F H F' H' → Dp g.K F' z d → Q z H') → r u v H Q
/-- .. that makes a new list -/
def RL (g : Gd) (r : R2) (x y : PyData) (ds : List PyData) : Prop := ∀ u v F H, Sub F H → Dp g.K F u x → Dp g.K F v y → ∀ Q : VK, (∀ p vs, H p = none → DpAll g.K F vs ds → Q (.ref p) (upd H p (.lst vs))) → r u v H Q
/-- .. that asks only -/
def RB (g : Gd) (r : R2) (x y d : PyData) : Prop := ∀ u v H, Dp g.K H u x → Dp g.K H v y → ∀ Q : VK, (∀ z, Dp g.K H z d → Q z H) → r u v H Q
def C1 (g : Gd) (r : List V → Hp → VK → Prop) (xs : List PyData) (d : PyData) : Prop := ∀ vs H, DpAll g.K H vs xs → ∀ Q : VK, (∀ z, Dp g.K H z d → Q z H) → r vs H Q
section
variable {g : Gd} {G : List Sl} {te ta tb tc : TE} {tt tu : TT} {d x y z : PyData} {ds : List PyData} {i : Nat}
theorem E.b (h : E g te G d) : B g te G d := fun σ F H hh Q q => h σ F H hh Q fun v F' H' s hd => q v F' H' s (s.i.ex.dp d v hd)
theorem b_of (h : E g te G d) : B g te G d := h.b
theorem B.e (h : B g te G d) (hs : scalD d = true) : E g te G d := fun σ F H hh Q q => h σ F H hh Q fun v F' H' s hd => q v F' H' s (dp_scal hs hd)
theorem EL.e (h : EL g te G ds) : E g te G (.list ds) := fun σ F H hh Q q => h σ F H hh Q fun p vs F' H' s h0 hF hH hd => by
  have e : Ex F' (upd F' p (.lst vs)) := fun a u q _ => by rw [upd_ne (ne_of_none q hF)]; exact q
  refine q (.ref p) (upd F' p (.lst vs)) H' ⟨s.f.trans e, ⟨fun a u q n => ?_, fun a ps q => ?_⟩, s.h, s.s, s.t, fun a u q n => ?_⟩ (.lst (.inl (.inl upd_same)) (e.dps ds vs hd))
  · by_cases ha : a = p
    · subst ha; rw [upd_same] at q; cases q; exact hH
    · rw [upd_ne ha] at q; exact s.i.ex a u q n
  · by_cases ha : a = p
    · subst ha; rw [upd_same] at q; cases q
    · rw [upd_ne ha] at q; exact s.i.nt a ps q
  · rw [upd_ne (ne_of_none q h0)]; exact s.n a u q n
theorem EL.b (h : EL g te G ds) : B g te G (.list ds) := h.e.b
theorem e_var (h : G[i]? = some (.fz d)) : E g (tVar i) G d := fun σ F H hh Q q => by
  obtain ⟨o, e, v, ev, hd⟩ := hh.at_ h
  subst ev
  exact ⟨v, e, q v F H (Stp.refl hh.st.i) hd⟩
theorem b_ow (h : G[i]? = some (.ow ds)) : B g (tVar i) G (.list ds) := fun σ F H hh Q q => by
  obtain ⟨o, e, p, vs, ev, h0, hF, hH, hd⟩ := hh.at_ h
  subst ev
  exact ⟨.ref p, e, q _ F H (Stp.refl hh.st.i) (.lst (.inl (.inl hH)) (hh.st.i.ex.dps ds vs hd))⟩
theorem e_int {k : Int} : E g (tC (.int k)) G (.int k) := fun _ F H hh _ q => q _ F H (Stp.refl hh.st.i) (.int k)
theorem e_str {k : Str} : E g (tC (.str k)) G (.str k) := fun _ F H hh _ q => q _ F H (Stp.refl hh.st.i) (.str k)
theorem e_bl {k : Bool} : E g (tC (.bl k)) G (.bool k) := fun _ F H hh _ q => q _ F H (Stp.refl hh.st.i) (.bl k)
theorem e_non : E g (tC .non) G .none := fun _ F H hh _ q => q _ F H (Stp.refl hh.st.i) .non
theorem e_op {r : R2} (ha : E g ta G x) (hb : E g tb G y) (hr : R g r x y d) : E g (tOp r ta tb) G d := fun σ F H hh Q q =>
  ha σ F H hh _ fun u F1 H1 s1 d1 => hb σ F1 H1 (hh.mono s1) _ fun v F2 H2 s2 d2 => hr u v F2 H2 s2.i (s2.f.dp x u d1) d2 Q fun z F3 H3 s3 d3 => q z F3 H3 ((s1.trans s2).trans s3) d3
theorem old_free {F H F' H' : Hp} (s : Stp F H F' H') {p : Addr} (h : H' p = none) : H p = none := by
  cases z : H p with
  | none => rfl
  | some o => obtain ⟨o', e⟩ := s.s p o z; rw [h] at e; cases e
theorem el_op {r : R2} (ha : E g ta G x) (hb : E g tb G y) (hr : RL g r x y ds) : EL g (tOp r ta tb) G ds := fun σ F H hh Q q =>
  ha σ F H hh _ fun u F1 H1 s1 d1 => hb σ F1 H1 (hh.mono s1) _ fun v F2 H2 s2 d2 => hr u v F2 H2 s2.i (s2.f.dp x u d1) d2 Q fun p vs hp hd =>
    q p vs F2 _ ((s1.trans s2).trans (Stp.mine s2.i hp)) (old_free (s1.trans s2) hp) (s2.i.free hp) upd_same hd
theorem b_op {r : R2} (ha : B g ta G x) (hb : B g tb G y) (hr : RB g r x y d) (hs : scalD d = true) : E g (tOp r ta tb) G d := fun σ F H hh Q q =>
  ha σ F H hh _ fun u F1 H1 s1 d1 => hb σ F1 H1 (hh.mono s1) _ fun v F2 H2 s2 d2 => hr u v H2 (s2.h.dp x u d1) d2 Q fun z d3 => q z F2 H2 (s1.trans s2) (dp_scal hs d3)
end
end DW
namespace DW
open PySem PySem.Spec PyProof.Rows L2
/-! ### operators over several kinds -/
def rAddS : R2 := fun x y H Q => ∃ i j, x = .str i ∧ y = .str j ∧ i.length + j.length ≤ sizeLine ∧ Q (.str (i ++ j)) H
/-- list + list, both read -/
def rAddL (K : PySem.W.Frag) : R2 := fun x y H Q => ∃ l b xs zs, x = .ref l ∧ y = .ref b ∧ SqL K H l xs ∧ SqL K H b zs ∧ xs.length + zs.length ≤ sizeLine ∧ ∀ p, H p = none → Q (.ref p) (upd H p (.lst (xs ++ zs)))
theorem op_catL {X : Cx} : OpR X (binaryOp .Add) (rAddL X.K) := by
  intro pins s σ H x y v u Q I rx ry h
  obtain ⟨l, b, xs, zs, rfl, rfl, hH, hB, hz, q⟩ := h
  cases rx
  cases ry
  obtain ⟨its, r, pl, z⟩ := I.list hH
  obtain ⟨its2, r2, pl2, z2⟩ := I.list hB
  have l1 := r.length
  have l2 := r2.length
  obtain ⟨⟨cls, dd, data, sl⟩, ho, hc, n, hd⟩ := id pl.isList
  obtain ⟨⟨cls2, dd2, data2, sl2⟩, ho2, hc2, n2, hd2⟩ := id pl2.isList
  simp only at hc hd hc2 hd2
  subst hc hd hc2 hd2
  have e : its.toArray ++ its2.toArray = (its ++ its2).toArray := by simp
  refine concat_meets ⟨_, ho, rfl⟩ ⟨_, ho2, rfl⟩ noFill_list_add seq_list_add PySem.F.slot_list_add PySem.F.entry_list_add (PySem.F.args_list_add_2 _ _) (list_addW l b its.toArray its2.toArray n n2 dd dd2 sl sl2 (by simp only [List.size_toArray]; omega)) ⟨ho, ho2, ?_⟩
  rw [e]
  exact ⟨.ref _, _, I.lnew (t' := s.toks) (r.append r2) (by rw [List.length_append]; omega), rfl, q _ I.fresh⟩
abbrev rAddU (K : PySem.W.Frag) : R2 := fun x y H Q => rI0 (fun i j => .int (i + j)) x y H Q ∨ (rAddS x y H Q ∨ (rAddL K x y H Q ∨ rCatT K x y H Q))
theorem uAdd {X : Cx} : OpR X (binaryOp .Add) (rAddU X.K) := op_add.or (op_add_str.or (op_catL.or op_catT))
/-- text * int -/
def mulS (x : Str) (n : Int) : Str := if n < 1 then Str.empty else if (n == 1 || x.length == 0) = true then x else ⟨(List.replicate n.toNat x.cps).foldl (· ++ ·) #[]⟩
def rMulS : R2 := fun x y H Q => ∃ i n, x = .str i ∧ y = .int n ∧ 0 ≤ n ∧ n ≤ 1000 ∧ i.length ≤ 1000 ∧ Q (.str (mulS i n)) H
theorem op_mulS {X : Cx} : OpR X (binaryOp .Mult) rMulS := by
  intro pins s σ H x y v u Q I rx ry h
  obtain ⟨i, n, rfl, rfl, h0, h1, hl, q⟩ := h
  obtain ⟨t, rfl⟩ := rx
  obtain ⟨t', rfl⟩ := ry
  have e1 : (decide (n < -(2 ^ 63 : Int)) || decide (n ≥ 2 ^ 63)) = false := by
    rw [decide_eq_false (by omega), decide_eq_false (by omega)]; rfl
  have ht : Builtin.Str.tooLong (i.length * n.toNat) = false := by
    have h3 : i.length * n.toNat ≤ 1000 * 1000 := Nat.mul_le_mul hl (by omega)
    have h4 : sizeLine = 16777216 := sizeLine_eq
    unfold Builtin.Str.tooLong
    exact decide_eq_false (by omega)
  refine PySem.P.mul_str e1 (fun h _ => ?_) (fun h _ => ?_) ?_
  · have h2 : (i.length : Int) * n ≤ 1000 * 1000 := Int.mul_le_mul (by omega) h1 h0 (by decide)
    have h3 : (i.length : Int) ≤ (2 ^ 63 - 1) / n := Int.le_ediv_of_mul_le (by omega) (Int.le_trans h2 (by decide))
    omega
  · exact ht
  · unfold mulS at q
    split
    · rename_i hh; rw [if_pos hh] at q; exact ⟨by decide, ⟨.str _, H, I.tok _, ⟨_, rfl⟩, q⟩⟩
    · rename_i hh; rw [if_neg hh] at q
      split
      · rename_i h4; rw [if_pos h4] at q; exact ⟨.str _, H, I, ⟨_, rfl⟩, q⟩
      · rename_i h4; rw [if_neg h4] at q; exact ⟨fits_reps ht, ⟨.str _, H, I.tok _, ⟨_, rfl⟩, q⟩⟩
abbrev rMulU : R2 := fun x y H Q => rI CMul (fun i j => .int (i * j)) x y H Q ∨ rMulS x y H Q
theorem uMul {X : Cx} : OpR X (binaryOp .Mult) rMulU := op_mul.or op_mulS
def rLtS : R2 := fun x y H Q => ∃ i j, x = .str i ∧ y = .str j ∧ Q (.bl (decide (i.cps.toList < j.cps.toList))) H
abbrev rLtU : R2 := fun x y H Q => rI0 (fun i j => .bl (decide (i < j))) x y H Q ∨ rLtS x y H Q
theorem uLt {X : Cx} : OpR X (compareOp .Lt) rLtU := op_lt.or op_lt_str
def rInSg : R2 := fun x y H Q => ∃ (c : Nat) (z : Str), x = .str ⟨#[c]⟩ ∧ y = .str z ∧ Q (.bl (decide (c ∈ z.cps.toList))) H
def rNiSg : R2 := fun x y H Q => ∃ (c : Nat) (z : Str), x = .str ⟨#[c]⟩ ∧ y = .str z ∧ Q (.bl (!decide (c ∈ z.cps.toList))) H
abbrev rInU (K : PySem.W.Frag) : R2 := fun x y H Q => rIn K false x y H Q ∨ rInSg x y H Q
abbrev rNiU (K : PySem.W.Frag) : R2 := fun x y H Q => rIn K true x y H Q ∨ rNiSg x y H Q
theorem uIn {X : Cx} : OpR X (compareOp .In) (rInU X.K) := op_in_seq.or op_in_sign
theorem uNi {X : Cx} : OpR X (compareOp .NotIn) (rNiU X.K) := op_notIn_seq.or op_notIn_sign
section
variable {g : Gd} {G : List Sl} {te ta tb tc : TE} {tt tu : TT} {d x y z : PyData} {ds es : List PyData} {i : Nat}
theorem add_i {a b : Int} : R g (rAddU g.K) (.int a) (.int b) (.int (a + b)) := fun u v F H e hu hv Q q => by
  cases hu; cases hv
  exact .inl ⟨a, b, rfl, rfl, q _ F H (Stp.refl e) (.int _)⟩
theorem add_s {a b : Str} (h : a.length + b.length ≤ 100000) : R g (rAddU g.K) (.str a) (.str b) (.str (a ++ b)) := fun u v F H e hu hv Q q => by
  cases hu; cases hv
  exact .inr (.inl ⟨a, b, rfl, rfl, Nat.le_trans h (by decide), q _ F H (Stp.refl e) (.str _)⟩)
theorem add_l (h : ds.length + es.length ≤ 100000) : RL g (rAddU g.K) (.list ds) (.list es) (ds ++ es) := fun u v F H e hu hv Q q => by
  obtain ⟨a, vs, rfl, h1, h2⟩ := dp_sq hu
  obtain ⟨b, ws, rfl, h3, h4⟩ := dp_sq hv
  exact .inr (.inr (.inl ⟨a, b, vs, ws, rfl, rfl, e.ex.l h1, e.ex.l h3, by rw [dps_len h2, dps_len h4]; exact Nat.le_trans h (by decide), fun p hp => q p _ hp (dps_app h2 h4)⟩))
theorem sub_i {a b : Int} : R g (rI0 fun i j => .int (i - j)) (.int a) (.int b) (.int (a - b)) := fun u v F H e hu hv Q q => by
  cases hu; cases hv
  exact ⟨a, b, rfl, rfl, q _ F H (Stp.refl e) (.int _)⟩
theorem mul_i {a b : Int} (h : CMul a b) : R g rMulU (.int a) (.int b) (.int (a * b)) := fun u v F H e hu hv Q q => by
  cases hu; cases hv
  exact .inl ⟨a, b, rfl, rfl, h, q _ F H (Stp.refl e) (.int _)⟩
theorem mul_s {a : Str} {b : Int} (h0 : 0 ≤ b) (h1 : b ≤ 1000) (hl : a.length ≤ 1000) : R g rMulU (.str a) (.int b) (.str (mulS a b)) := fun u v F H e hu hv Q q => by
  cases hu; cases hv
  exact .inr ⟨a, b, rfl, rfl, h0, h1, hl, q _ F H (Stp.refl e) (.str _)⟩
theorem div_i {a b : Int} (h : 0 < b) (h2 : b < 1073741824) : R g (rI CDiv fun i j => .int (i / j)) (.int a) (.int b) (.int (a / b)) := fun u v F H e hu hv Q q => by
  cases hu; cases hv
  exact ⟨a, b, rfl, rfl, ⟨h, h2⟩, q _ F H (Stp.refl e) (.int _)⟩
theorem mod_i {a b : Int} (h : 0 < b) : R g (rI (fun _ j => 0 < j) fun i j => .int (i % j)) (.int a) (.int b) (.int (a % b)) := fun u v F H e hu hv Q q => by
  cases hu; cases hv
  exact ⟨a, b, rfl, rfl, h, q _ F H (Stp.refl e) (.int _)⟩
theorem pow_i {a b : Int} (h : CPow a b) : R g (rI CPow fun i j => .int (i ^ j.toNat)) (.int a) (.int b) (.int (a ^ b.toNat)) := fun u v F H e hu hv Q q => by
  cases hu; cases hv
  exact ⟨a, b, rfl, rfl, h, q _ F H (Stp.refl e) (.int _)⟩
theorem lt_i {a b : Int} : RB g rLtU (.int a) (.int b) (.bool (decide (a < b))) := fun u v H hu hv Q q => by
  cases hu; cases hv
  exact .inl ⟨a, b, rfl, rfl, q _ (.bl _)⟩
theorem lt_s {a b : Str} : RB g rLtU (.str a) (.str b) (.bool (decide (a.cps.toList < b.cps.toList))) := fun u v H hu hv Q q => by
  cases hu; cases hv
  exact .inr ⟨a, b, rfl, rfl, q _ (.bl _)⟩
theorem le_i {a b : Int} : RB g (rI0 fun i j => .bl (decide (i ≤ j))) (.int a) (.int b) (.bool (decide (a ≤ b))) := fun u v H hu hv Q q => by
  cases hu; cases hv
  exact ⟨a, b, rfl, rfl, q _ (.bl _)⟩
theorem gt_i {a b : Int} : RB g (rI0 fun i j => .bl (decide (j < i))) (.int a) (.int b) (.bool (decide (b < a))) := fun u v H hu hv Q q => by
  cases hu; cases hv
  exact ⟨a, b, rfl, rfl, q _ (.bl _)⟩
theorem ge_i {a b : Int} : RB g (rI0 fun i j => .bl (decide (j ≤ i))) (.int a) (.int b) (.bool (decide (b ≤ a))) := fun u v H hu hv Q q => by
  cases hu; cases hv
  exact ⟨a, b, rfl, rfl, q _ (.bl _)⟩
theorem eq_d (hx : SeqAt.shaped x = true) (hy : SeqAt.shaped y = true) : RB g (rEqD g.K) x y (.bool (PyData.eqv x y)) := fun u v H hu hv Q q => ⟨x, y, hu, hv, hx, hy, q _ (.bl _)⟩
/-- the V of a flat datum -/
def flD : PyData → V
  | .none => .non
  | .bool b => .bl b
  | .int i => .int i
  | .str s => .str s
  | _ => .non
theorem fl_of {K : PySem.W.Frag} {H : Hp} {v : V} : ∀ {d : PyData}, scalD d = true → Dp K H v d → v = flD d ∧ flatV v = true
  | .none, _, h => by cases h; exact ⟨rfl, rfl⟩
  | .bool b, _, h => by cases h; exact ⟨rfl, rfl⟩
  | .int i, _, h => by cases h; exact ⟨rfl, rfl⟩
  | .str x, _, h => by cases h; exact ⟨rfl, rfl⟩
  | .list _, e, _ => by cases e
  | .tuple _, e, _ => by cases e
  | .dict _, e, _ => by cases e
theorem fls_of {K : PySem.W.Frag} {H : Hp} : ∀ {vs : List V} {ds : List PyData}, ds.all scalD = true → DpAll K H vs ds → vs = ds.map flD ∧ vs.all flatV = true
  | _, _, _, .nil => ⟨rfl, rfl⟩
  | _, _, e, .cons h t => by
    rw [List.all_cons, Bool.and_eq_true] at e
    obtain ⟨e1, e2⟩ := fl_of e.1 h
    obtain ⟨e3, e4⟩ := fls_of e.2 t
    exact ⟨by rw [e1, e3]; rfl, by rw [List.all_cons, e2, e4]; rfl⟩
def inD (x : PyData) (ds : List PyData) : Bool := inV (flD x) (ds.map flD)
theorem in_l (hx : scalD x = true) (hd : ds.all scalD = true) : RB g (rInU g.K) x (.list ds) (.bool (inD x ds)) := fun u v H hu hv Q q => by
  obtain ⟨a, vs, rfl, h1, h2⟩ := dp_sq hv
  obtain ⟨e1, f1⟩ := fl_of hx hu
  obtain ⟨e2, f2⟩ := fls_of hd h2
  refine .inl ⟨a, vs, rfl, .inl h1, f1, f2, ?_⟩
  rw [e1, e2]; exact q _ (.bl _)
theorem in_t (hx : scalD x = true) (hd : ds.all scalD = true) : RB g (rInU g.K) x (.tuple ds) (.bool (inD x ds)) := fun u v H hu hv Q q => by
  obtain ⟨a, vs, rfl, h1, h2⟩ := dp_tq hv
  obtain ⟨e1, f1⟩ := fl_of hx hu
  obtain ⟨e2, f2⟩ := fls_of hd h2
  refine .inl ⟨a, vs, rfl, .inr h1, f1, f2, ?_⟩
  rw [e1, e2]; exact q _ (.bl _)
theorem ni_l (hx : scalD x = true) (hd : ds.all scalD = true) : RB g (rNiU g.K) x (.list ds) (.bool (!inD x ds)) := fun u v H hu hv Q q => by
  obtain ⟨a, vs, rfl, h1, h2⟩ := dp_sq hv
  obtain ⟨e1, f1⟩ := fl_of hx hu
  obtain ⟨e2, f2⟩ := fls_of hd h2
  refine .inl ⟨a, vs, rfl, .inl h1, f1, f2, ?_⟩
  rw [e1, e2]; exact q _ (.bl _)
theorem ni_t (hx : scalD x = true) (hd : ds.all scalD = true) : RB g (rNiU g.K) x (.tuple ds) (.bool (!inD x ds)) := fun u v H hu hv Q q => by
  obtain ⟨a, vs, rfl, h1, h2⟩ := dp_tq hv
  obtain ⟨e1, f1⟩ := fl_of hx hu
  obtain ⟨e2, f2⟩ := fls_of hd h2
  refine .inl ⟨a, vs, rfl, .inr h1, f1, f2, ?_⟩
  rw [e1, e2]; exact q _ (.bl _)
theorem in_sg {c : Nat} {z : Str} : RB g (rInU g.K) (.str ⟨#[c]⟩) (.str z) (.bool (decide (c ∈ z.cps.toList))) := fun u v H hu hv Q q => by
  cases hu; cases hv
  exact .inr ⟨c, z, rfl, rfl, q _ (.bl _)⟩
theorem ni_sg {c : Nat} {z : Str} : RB g (rNiU g.K) (.str ⟨#[c]⟩) (.str z) (.bool (!decide (c ∈ z.cps.toList))) := fun u v H hu hv Q q => by
  cases hu; cases hv
  exact .inr ⟨c, z, rfl, rfl, q _ (.bl _)⟩
/-- an item -/
theorem ix_l {k : Int} (h : atI ds k = some d) : R g (rIx g.K) (.list ds) (.int k) d := fun u v F H e hu hv Q q => by
  obtain ⟨a, vs, rfl, h1, h2⟩ := dp_sq hu
  cases hv
  unfold atI at h
  rw [← dps_len h2] at h
  cases hi : ixN vs.length k with
  | none => rw [hi] at h; cases h
  | some j =>
    rw [hi] at h
    obtain ⟨w, e1, e2⟩ := dps_get h2 (show ds[j]? = some d from h)
    exact .inl ⟨a, vs, k, w, rfl, rfl, e.ex.l h1, by unfold atI; rw [hi]; exact e1, q w F H (Stp.refl e) e2⟩
theorem ix_t {k : Int} (h : atI ds k = some d) : R g (rIx g.K) (.tuple ds) (.int k) d := fun u v F H e hu hv Q q => by
  obtain ⟨a, vs, rfl, h1, h2⟩ := dp_tq hu
  cases hv
  unfold atI at h
  rw [← dps_len h2] at h
  cases hi : ixN vs.length k with
  | none => rw [hi] at h; cases h
  | some j =>
    rw [hi] at h
    obtain ⟨w, e1, e2⟩ := dps_get h2 (show ds[j]? = some d from h)
    exact .inr (.inl ⟨a, vs, k, w, rfl, rfl, e.ex.t h1, by unfold atI; rw [hi]; exact e1, q w F H (Stp.refl e) e2⟩)
theorem ix_s {s : Str} {k : Int} {c : Nat} (hl : s.length ≤ 100000) (h : atI s.cps.toList k = some c) : R g (rIx g.K) (.str s) (.int k) (.str ⟨#[c]⟩) := fun u v F H e hu hv Q q => by
  cases hu; cases hv
  exact .inr (.inr ⟨s, k, c, rfl, rfl, Nat.le_trans hl (by decide), h, q _ F H (Stp.refl e) (.str _)⟩)
/-- an item of our own list -/
theorem e_ixo {j : Nat} {k : Int} (h : G[j]? = some (.ow ds)) (hb : E g tb G (.int k)) (hk : atI ds k = some d) : E g (tOp (rIx g.K) (tVar j) tb) G d := fun σ F H hh Q q => by
  obtain ⟨o, e, p, vs, ev, h0, hF, hH, hd⟩ := hh.at_ h
  subst ev
  refine ⟨.ref p, e, hb σ F H hh _ fun v F1 H1 s1 d1 => ?_⟩
  cases d1
  unfold atI at hk
  rw [← dps_len hd] at hk
  cases hi : ixN vs.length k with
  | none => rw [hi] at hk; cases hk
  | some j =>
    rw [hi] at hk
    obtain ⟨w, e1, e2⟩ := dps_get hd (show ds[j]? = some d from hk)
    exact .inl ⟨p, vs, k, w, rfl, rfl, .inl (.inl (s1.h.lst hH)), by unfold atI; rw [hi]; exact e1, q w F1 H1 s1 (s1.f.dp d w e2)⟩
/-! ### unary, and, or, not, if -/
theorem e_neg {k : Int} (h : E g te G (.int k)) : E g (tUn (rU fun i => .int (-i)) te) G (.int (-k)) := fun σ F H hh Q q =>
  h σ F H hh _ fun v F1 H1 s1 d1 => by cases d1; exact ⟨k, rfl, q _ F1 H1 s1 (.int _)⟩
theorem t_test {b : Bool} (h : E g te G (.bool b)) : T g (tTest te) G b := fun σ F H hh Q q => h σ F H hh _ fun v F1 H1 s1 d1 => by cases d1; exact ⟨b, rfl, q F1 H1 s1⟩
theorem t_and {a b : Bool} (h1 : T g tt G a) (h2 : a = true → T g tu G b) : T g (tAnd tt tu) G (a && b) := fun σ F H hh Q q => h1 σ F H hh _ fun F1 H1 s1 => by
  cases a with
  | true => exact h2 rfl σ F1 H1 (hh.mono s1) Q fun F2 H2 s2 => q F2 H2 (s1.trans s2)
  | false => exact q F1 H1 s1
theorem t_or {a b : Bool} (h1 : T g tt G a) (h2 : a = false → T g tu G b) : T g (tOr tt tu) G (a || b) := fun σ F H hh Q q => h1 σ F H hh _ fun F1 H1 s1 => by
  cases a with
  | true => exact q F1 H1 s1
  | false => exact h2 rfl σ F1 H1 (hh.mono s1) Q fun F2 H2 s2 => q F2 H2 (s1.trans s2)
theorem t_not {a : Bool} (h1 : T g tt G a) : T g (tNot tt) G (!a) := fun σ F H hh Q q => h1 σ F H hh _ fun F1 H1 s1 => q F1 H1 s1
theorem e_andV {a b : Bool} (h1 : E g ta G (.bool a)) (h2 : a = true → E g tb G (.bool b)) : E g (tAndV ta tb) G (.bool (a && b)) := fun σ F H hh Q q => h1 σ F H hh _ fun v F1 H1 s1 d1 => by
  cases d1
  refine ⟨a, rfl, ?_⟩
  cases a with
  | true => exact h2 rfl σ F1 H1 (hh.mono s1) Q fun v F2 H2 s2 => q v F2 H2 (s1.trans s2)
  | false => exact q _ F1 H1 s1 (.bl false)
theorem e_orV {a b : Bool} (h1 : E g ta G (.bool a)) (h2 : a = false → E g tb G (.bool b)) : E g (tOrV ta tb) G (.bool (a || b)) := fun σ F H hh Q q => h1 σ F H hh _ fun v F1 H1 s1 d1 => by
  cases d1
  refine ⟨a, rfl, ?_⟩
  cases a with
  | true => exact q _ F1 H1 s1 (.bl true)
  | false => exact h2 rfl σ F1 H1 (hh.mono s1) Q fun v F2 H2 s2 => q v F2 H2 (s1.trans s2)
theorem e_if {b : Bool} (h : T g tt G b) (h1 : b = true → E g ta G d) (h2 : b = false → E g tb G d) : E g (tIf tt ta tb) G d := fun σ F H hh Q q => h σ F H hh _ fun F1 H1 s1 => by
  cases b with
  | true => exact h1 rfl σ F1 H1 (hh.mono s1) Q fun v F2 H2 s2 => q v F2 H2 (s1.trans s2)
  | false => exact h2 rfl σ F1 H1 (hh.mono s1) Q fun v F2 H2 s2 => q v F2 H2 (s1.trans s2)
theorem e_chain {r r' : R2} {a b : Bool} (ha : B g ta G x) (hb : B g tb G y) (hc : a = true → B g tc G z) (h1 : RB g r x y (.bool a)) (h2 : a = true → RB g r' y z (.bool b)) : E g (tChain r r' ta tb tc) G (.bool (a && b)) := fun σ F H hh Q q =>
  ha σ F H hh _ fun u F1 H1 s1 d1 => hb σ F1 H1 (hh.mono s1) _ fun v F2 H2 s2 d2 => h1 u v H2 (s2.h.dp x u d1) d2 _ fun w dw => by
    cases dw
    refine ⟨a, rfl, ?_⟩
    cases a with
    | true => exact hc rfl σ F2 H2 ((hh.mono s1).mono s2) _ fun u3 F3 H3 s3 d3 => h2 rfl v u3 H3 (s3.h.dp y v d2) d3 Q fun w' dw' => by cases dw'; exact q _ F3 H3 ((s1.trans s2).trans s3) (.bl _)
    | false => exact q _ F2 H2 (s1.trans s2) (.bl false)
/-- truth -/
def truD : PyData → Option Bool
  | .none => some false
  | .bool b => some b
  | .int i => some (i != 0)
  | .str s => if s.length ≤ 100000 then some ((s.length : Int) != 0) else none
  | .list ds => some (!ds.isEmpty)
  | .tuple ds => some (!ds.isEmpty)
  | .dict _ => none
theorem isEmpty_dps {K : PySem.W.Frag} {F : Hp} {vs : List V} {ds : List PyData} (h : DpAll K F vs ds) : vs.isEmpty = ds.isEmpty := by cases h <;> rfl
theorem tru_of {K : PySem.W.Frag} {H : Hp} {v : V} {b : Bool} : ∀ {d : PyData}, truD d = some b → Dp K H v d → TruV K v H b
  | .none, e, h => by cases h; exact (Option.some.inj e).symm
  | .bool _, e, h => by cases h; exact (Option.some.inj e).symm
  | .int _, e, h => by cases h; exact (Option.some.inj e).symm
  | .str s, e, h => by
    cases h
    have e' : (if s.length ≤ 100000 then some ((s.length : Int) != 0) else none) = some b := e
    by_cases hl : s.length ≤ 100000
    · rw [if_pos hl] at e'; exact ⟨Nat.le_trans hl (by decide), (Option.some.inj e').symm⟩
    · rw [if_neg hl] at e'; cases e'
  | .list _, e, h => by
    obtain ⟨a, vs, rfl, h1, h2⟩ := dp_sq h
    exact .inl ⟨vs, h1, by rw [isEmpty_dps h2]; exact (Option.some.inj e).symm⟩
  | .tuple _, e, h => by
    obtain ⟨a, vs, rfl, h1, h2⟩ := dp_tq h
    exact .inr (.inl ⟨vs, h1, by rw [isEmpty_dps h2]; exact (Option.some.inj e).symm⟩)
  | .dict _, e, _ => by cases e
theorem t_truth {b : Bool} (h : B g te G d) (e : truD d = some b) : T g (fun σ H Q => te σ H fun x H' => ∃ k, TruV g.K x H' k ∧ Q k H') G b := fun σ F H hh Q q =>
  h σ F H hh _ fun v F1 H1 s1 d1 => ⟨b, tru_of e d1, q F1 H1 s1⟩
theorem e_notT {b : Bool} (h : B g te G d) (e : truD d = some b) : E g (tNotT g.K te) G (.bool (!b)) := fun σ F H hh Q q =>
  h σ F H hh _ fun v F1 H1 s1 d1 => ⟨b, tru_of e d1, q _ F1 H1 s1 (.bl _)⟩
/-! ### arguments, displays, calls -/
theorem a_nil : A g tNil G [] := fun σ F H hh Q q => q [] F H (Stp.refl hh.st.i) .nil
theorem a_cons {tr : TA} (h : E g te G d) (hr : A g tr G ds) : A g (tCons te tr) G (d :: ds) := fun σ F H hh Q q =>
  h σ F H hh _ fun v F1 H1 s1 d1 => hr σ F1 H1 (hh.mono s1) _ fun vs F2 H2 s2 d2 => q (v :: vs) F2 H2 (s1.trans s2) (.cons (s2.f.dp d v d1) d2)
theorem ab_nil : AB g tNil G [] := fun σ F H hh Q q => q [] F H (Stp.refl hh.st.i) .nil
theorem ab_cons {tr : TA} (h : B g te G d) (hr : AB g tr G ds) : AB g (tCons te tr) G (d :: ds) := fun σ F H hh Q q =>
  h σ F H hh _ fun v F1 H1 s1 d1 => hr σ F1 H1 (hh.mono s1) _ fun vs F2 H2 s2 d2 => q (v :: vs) F2 H2 (s1.trans s2) (.cons (s2.h.dp d v d1) d2)
theorem e_tup {ta : TA} (h : A g ta G ds) (hl : ds.length ≤ 100000) : E g (tTup ta) G (.tuple ds) := fun σ F H hh Q q => h σ F H hh _ fun vs F1 H1 s1 d1 =>
  ⟨by rw [dps_len d1]; exact Nat.le_trans hl (by decide), fun p hp => by
    have st := Stp.new (o := .tup vs) s1.i hp fun _ z => by cases z
    exact q (.ref p) _ _ (s1.trans st) (.tup (.inl (.inl upd_same)) (st.f.dps ds vs d1))⟩
theorem el_lst {ta : TA} (h : A g ta G ds) (hl : ds.length ≤ 100000) : EL g (tLst ta) G ds := fun σ F H hh Q q => h σ F H hh _ fun vs F1 H1 s1 d1 =>
  ⟨by rw [dps_len d1]; exact Nat.le_trans hl (by decide), fun p hp => q p vs F1 _ (s1.trans (Stp.mine s1.i hp)) (old_free s1 hp) (s1.i.free hp) upd_same d1⟩
theorem b_cb {r : List V → Hp → VK → Prop} {ta : TA} (h : AB g ta G ds) (hr : C1 g r ds d) (hs : scalD d = true) : E g (tCB r ta) G d := fun σ F H hh Q q => h σ F H hh _ fun vs F1 H1 s1 d1 =>
  hr vs H1 d1 Q fun z dz => q z F1 H1 s1 (dp_scal hs dz)
theorem ab_one {vs : List V} {H : Hp} {K : PySem.W.Frag} (h : DpAll K H vs [d]) : ∃ v, vs = [v] ∧ Dp K H v d := by
  cases h with
  | cons h t => cases t; exact ⟨_, rfl, h⟩
def rLenU (K : PySem.W.Frag) : List V → Hp → VK → Prop := fun xs H Q => ∃ x n, xs = [x] ∧ LenV K x H n ∧ Q (.int n) H
theorem uLen {X : Cx} : CallR X (.builtin "len") (rLenU X.K) := call_len
theorem len_l : C1 g (rLenU g.K) [.list ds] (.int ds.length) := fun vs H h Q q => by
  obtain ⟨v, rfl, hw⟩ := ab_one h
  obtain ⟨a, ws, rfl, h1, h2⟩ := dp_sq hw
  exact ⟨_, ds.length, rfl, .inl ⟨ws, h1, (dps_len h2).symm⟩, q _ (.int _)⟩
theorem len_t : C1 g (rLenU g.K) [.tuple ds] (.int ds.length) := fun vs H h Q q => by
  obtain ⟨v, rfl, hw⟩ := ab_one h
  obtain ⟨a, ws, rfl, h1, h2⟩ := dp_tq hw
  exact ⟨_, ds.length, rfl, .inr ⟨ws, h1, (dps_len h2).symm⟩, q _ (.int _)⟩
theorem len_s {s : Str} (hl : s.length ≤ 100000) : C1 g (rLenU g.K) [.str s] (.int s.length) := fun vs H h Q q => by
  obtain ⟨v, rfl, hw⟩ := ab_one h
  cases hw
  exact ⟨_, s.length, rfl, ⟨Nat.le_trans hl (by decide), rfl⟩, q _ (.int _)⟩
def rIntU : List V → Hp → VK → Prop := fun xs H Q => (∃ i, xs = [.int i] ∧ Q (.int i) H) ∨ ∃ k, xs = [.bl k] ∧ Q (.int (if k then 1 else 0)) H
theorem uInt {X : Cx} : CallR X (.type "int") rIntU := call_int1
theorem int_i {k : Int} : C1 g rIntU [.int k] (.int k) := fun vs H h Q q => by
  obtain ⟨v, rfl, hw⟩ := ab_one h
  cases hw
  exact .inl ⟨k, rfl, q _ (.int _)⟩
def rTupU (K : PySem.W.Frag) : List V → Hp → VK → Prop := fun xs H Q => ∃ p ys, xs = [.ref p] ∧ ((SqL K H p ys ∧ ∀ l, H l = none → Q (.ref l) (upd H l (.tup ys))) ∨ (SqT K H p ys ∧ Q (.ref p) H))
theorem uTup {X : Cx} : CallR X (.type "tuple") (rTupU X.K) := call_tuple_of
theorem e_tupL (h : EL g te G ds) : E g (tCB (rTupU g.K) (tCons te tNil)) G (.tuple ds) := fun σ F H hh Q q => h σ F H hh _ fun p vs F1 H1 s1 h0 hF hH d1 =>
  ⟨p, vs, rfl, .inl ⟨.inl (.inl hH), fun l hl => by
    have st := Stp.new (o := .tup vs) s1.i hl fun _ z => by cases z
    exact q (.ref l) _ _ (s1.trans st) (.tup (.inl (.inl upd_same)) (st.f.dps ds vs d1))⟩⟩
/-! slices -/
def cutD (ds : List PyData) (lo hi : Option Int) : List PyData := (ds.drop (HT.sIx ds.length 0 lo)).take (HT.sIx ds.length ds.length hi - HT.sIx ds.length 0 lo)
def O (g : Gd) (to : TO) (G : List Sl) (o : Option Int) : Prop := ∀ σ F H, Holds g G σ F H → ∀ Q : Option Int → Hp → Prop, (∀ F' H', Stp F H F' H' → Q o H') → to σ H Q
theorem o_none : O g tNoPart G none := fun σ F H hh Q q => q F H (Stp.refl hh.st.i)
theorem o_some {k : Int} (h : E g te G (.int k)) : O g (tPart te) G (some k) := fun σ F H hh Q q => h σ F H hh _ fun v F1 H1 s1 d1 => by cases d1; exact ⟨k, rfl, q F1 H1 s1⟩
def rSlU (K : PySem.W.Frag) : V → Option Int → Option Int → Hp → VK → Prop := fun x lo hi H Q => rSlL K x lo hi H Q ∨ rSlS x lo hi H Q
theorem SlR.or {X : Cx} {r r' : V → Option Int → Option Int → Hp → VK → Prop} (h : SlR X r) (h' : SlR X r') : SlR X (fun x lo hi H Q => r x lo hi H Q ∨ r' x lo hi H Q) := by
  intro pins s σ H x v vl vu lo hi sl Q I rx hs pl pu hq
  rcases hq with hq | hq
  · exact h pins s σ H x v vl vu lo hi sl Q I rx hs pl pu hq
  · exact h' pins s σ H x v vl vu lo hi sl Q I rx hs pl pu hq
theorem uSl {X : Cx} : SlR X (rSlU X.K) := SlR.or sl_list sl_str
theorem cut_dps {K : PySem.W.Frag} {F : Hp} {vs : List V} {lo hi : Option Int} (h : DpAll K F vs ds) : DpAll K F (cutV vs lo hi) (cutD ds lo hi) := by
  unfold cutV cutD
  rw [dps_len h]
  exact dps_take _ (dps_drop _ h)
theorem e_slS {to tp : TO} {lo hi : Option Int} {s : Str} (h : E g te G (.str s)) (hz : s.length ≤ 100000) (hl : O g to G lo) (hu : O g tp G hi) : E g (tSl (rSlU g.K) te to tp) G (.str (cutS s lo hi)) := fun σ F H hh Q q =>
  h σ F H hh _ fun v F1 H1 s1 d1 => hl σ F1 H1 (hh.mono s1) _ fun F2 H2 s2 => hu σ F2 H2 ((hh.mono s1).mono s2) _ fun F3 H3 s3 => by
    cases d1
    exact .inr ⟨s, rfl, Nat.le_trans hz (by decide), q _ F3 H3 ((s1.trans s2).trans s3) (.str _)⟩
end
end DW
namespace DW
open PySem PySem.Spec PyProof.Rows L2
/-! ### a list of ours changes -/
theorem Stp.mut {F H F' H' : Hp} {p : Addr} {o1 o2 : HO} (s : Stp F H F' H') (h0 : H p = none) (hF : F' p = none) (hH : H' p = some o1) (nt : ∀ ps, o1 ≠ .tbl ps) : Stp F H F' (upd H' p o2) := by
  refine ⟨s.f, ⟨fun a o q n => ?_, s.i.nt⟩, fun a o q n => ?_, fun a o q => ?_, fun P t => ?_, s.n⟩
  · rw [upd_ne (ne_of_none q hF)]; exact s.i.ex a o q n
  · rw [upd_ne (ne_of_none q h0)]; exact s.h a o q n
  · rw [upd_ne (ne_of_none q h0)]; exact s.s a o q
  · obtain ⟨ps, e, r⟩ := s.t P t
    refine ⟨ps, ?_, r⟩
    rw [upd_ne (fun z => by rw [z, hH] at e; cases e; exact nt ps rfl)]; exact e
theorem Holds.mut {g : Gd} {G : List Sl} {σ : L2.St} {F H : Hp} {p : Addr} {o1 o2 : HO} (h : Holds g G σ F H) (h0 : g.H0 p = none) (hF : F p = none) (hH : H p = some o1) (nt : ∀ ps, o1 ≠ .tbl ps) (new : ∀ (j : Nat) (t : Sl), G[j]? = some t → t.mine = true → σ[j]? ≠ some (some (V.ref p))) :
    Holds g G σ F (upd H p o2) := by
  refine ⟨h.len, h.st.mut h0 hF hH nt, fun j s o e1 e2 => ?_, h.apart, fun P hP => ?_, h.lo⟩
  · have q := h.sl j s o e1 e2
    cases s with
    | un => trivial
    | fz d => exact q
    | raw v => exact q
    | ow ds =>
      obtain ⟨r, vs, e, q0, qF, qH, qd⟩ := q
      subst e
      refine ⟨r, vs, rfl, q0, qF, ?_, qd⟩
      rw [upd_ne (fun z => new j _ e1 rfl (by rw [e2, z]))]; exact qH
    | od ds =>
      obtain ⟨r, vs, e, q0, qF, qH, qd⟩ := q
      subst e
      refine ⟨r, vs, rfl, q0, qF, ?_, qd⟩
      rw [upd_ne (fun z => new j _ e1 rfl (by rw [e2, z]))]; exact qH
    | fk ds => exact q
    | ob C =>
      obtain ⟨r, u, e, q0, qF, qH, qn, qC⟩ := q
      subst e
      refine ⟨r, u, rfl, q0, qF, ?_, qn, qC⟩
      rw [upd_ne (fun z => new j _ e1 rfl (by rw [e2, z]))]; exact qH
  · obtain ⟨ps, e, r⟩ := h.tab P hP
    refine ⟨ps, ?_, r⟩
    rw [upd_ne (fun z => by rw [z, hH] at e; cases e; exact nt ps rfl)]; exact e
/-! ### statements -/
def S (g : Gd) (t : TS) (D : Ends) (G : List Sl) : Prop := ∀ σ F H, Holds g G σ F H → t D σ H
def N (g : Gd) (nx : L2.St → Hp → Prop) (G : List Sl) : Prop := ∀ σ F H, Holds g G σ F H → nx σ H
def Rt (g : Gd) (rt : VK) (d : PyData) : Prop := ∀ v F H, Stp g.F0 g.H0 F H → Dp g.K F v d → rt v H
def RtL (g : Gd) (rt : VK) (ds : List PyData) : Prop := ∀ p vs F H, Stp g.F0 g.H0 F H → g.H0 p = none → F p = none → H p = some (.lst vs) → DpAll g.K F vs ds → rt (.ref p) H
/-- targets -/
def Tg (g : Gd) (tg : TG) (d : PyData) (G G' : List Sl) (ix : List Nat) : Prop := ∀ v σ F H, Holds g G σ F H → Dp g.K F v d → ∀ Q : L2.St → Hp → Prop, (∀ σ', Holds g G' σ' F H → (∀ vs : List Nat, (∀ j ∈ ix, j ∈ vs) → wipe σ' vs = wipe σ vs) → Q σ' H) → tg v σ H Q
def Tgs (g : Gd) (tg : TGs) (ds : List PyData) (G G' : List Sl) (ix : List Nat) : Prop := ∀ vs σ F H, Holds g G σ F H → DpAll g.K F vs ds → ∀ Q : L2.St → Hp → Prop, (∀ σ', Holds g G' σ' F H → (∀ vs : List Nat, (∀ j ∈ ix, j ∈ vs) → wipe σ' vs = wipe σ vs) → Q σ' H) → tg vs σ H Q
theorem wipe_set {σ : L2.St} {j : Nat} {v : Option V} : ∀ {vs : List Nat}, j ∈ vs → wipe (σ.set j v) vs = wipe σ vs
  | [], h => by cases h
  | w :: vs, h => by
    unfold wipe
    by_cases hj : j ∈ vs
    · rw [wipe_set hj]
    · have e : j = w := by
        rcases List.mem_cons.mp h with e | e
        · exact e
        · exact absurd e hj
      subst e
      have aux : ∀ (vs : List Nat), j ∉ vs → (wipe (σ.set j v) vs).set j none = (wipe σ vs).set j none := by
        intro vs
        induction vs with
        | nil => intro _; unfold wipe; rw [List.set_set]
        | cons w vs ih =>
          intro hn
          have h1 : j ≠ w := fun z => hn (by rw [z]; exact List.mem_cons_self)
          have h2 : j ∉ vs := fun z => hn (List.mem_cons_of_mem _ z)
          unfold wipe
          rw [List.set_comm _ _ (Ne.symm h1), ih h2, List.set_comm _ _ h1]
      exact aux vs hj
/-- forgetting, slot by slot -/
inductive Wk : List Sl → List Sl → Prop
  | nil : Wk [] []
  | keep {s s' : Sl} {G G' : List Sl} (e : s' = s) (h : Wk G G') : Wk (s :: G) (s' :: G')
  | drop {s : Sl} {G G' : List Sl} (h : Wk G G') : Wk (s :: G) (.un :: G')
theorem Wk.refl : ∀ (G : List Sl), Wk G G
  | [] => .nil
  | _ :: G => .keep rfl (Wk.refl G)
theorem Wk.len : ∀ {G G' : List Sl}, Wk G G' → G'.length = G.length
  | _, _, .nil => rfl
  | _, _, .keep _ h => by rw [List.length_cons, List.length_cons, Wk.len h]
  | _, _, .drop h => by rw [List.length_cons, List.length_cons, Wk.len h]
theorem Wk.ok : ∀ {G G' : List Sl}, Wk G G' → ∀ (j : Nat) (s : Sl), G'[j]? = some s → s = .un ∨ G[j]? = some s
  | _, _, .nil, _, _, e => by simp at e
  | _, _, .keep e _, 0, s, h => by simp at h; subst h; subst e; exact .inr rfl
  | _, _, .keep _ t, j + 1, s, h => by simpa using Wk.ok t j s (by simpa using h)
  | _, _, .drop _, 0, s, h => by simp at h; exact .inl h.symm
  | _, _, .drop t, j + 1, s, h => by simpa using Wk.ok t j s (by simpa using h)
theorem Holds.wk {g : Gd} {G G' : List Sl} {σ : L2.St} {F H : Hp} (h : Holds g G σ F H) (w : Wk G G') : Holds g G' σ F H := h.weak w.len w.ok
section
variable {g : Gd} {G G' G1 : List Sl} {te ta tb tc : TE} {tt : TT} {tu tw : TS} {d x y : PyData} {ds es : List PyData} {i j : Nat} {D : Ends} {tg : TG} {tgs : TGs} {ix ix' : List Nat}
theorem s_next (h : N g D.nx G) : S g tNext D G := h
theorem s_asg (h : E g te G d) (k : N g D.nx (G.set i (.fz d))) : S g (tAsg te (gName i)) D G := fun σ F H hh => h σ F H hh _ fun v F1 H1 s1 d1 => k _ F1 H1 ((hh.mono s1).setF d1)
theorem new_ok {σ : L2.St} {F H : Hp} (hh : Holds g G σ F H) {p : Addr} (h0 : H p = none) : ∀ (j : Nat), (∃ t, G[j]? = some t ∧ t.mine = true) → σ[j]? ≠ some (some (.ref p)) := fun j ht e => by
  obtain ⟨t, e1, m⟩ := ht
  have q := hh.sl j t _ e1 e
  cases t with
  | un => cases m
  | fz d => cases m
  | raw v => cases m
  | ow ds =>
    obtain ⟨r, vs, e2, _, _, qH, _⟩ := q
    cases e2
    rw [h0] at qH; cases qH
  | od ds =>
    obtain ⟨r, vs, e2, _, _, qH, _⟩ := q
    cases e2
    rw [h0] at qH; cases qH
  | fk ds => cases m
  | ob C =>
    obtain ⟨r, u, e2, _, _, qH, _⟩ := q
    cases e2
    rw [h0] at qH; cases qH
theorem s_asgL (h : EL g te G ds) (k : N g D.nx (G.set i (.ow ds))) : S g (tAsg te (gName i)) D G := fun σ F H hh => h σ F H hh _ fun p vs F1 H1 s1 h0 hF hH d1 =>
  k _ F1 H1 ((hh.mono s1).setO (old_free hh.st h0) hF hH d1 fun j _ ht => new_ok hh h0 j ht)
theorem s_asgT (h : E g te G d) (ht : Tg g tg d G G' ix) (k : N g D.nx G') : S g (tAsg te tg) D G := fun σ F H hh => h σ F H hh _ fun v F1 H1 s1 d1 => ht v σ F1 H1 (hh.mono s1) d1 _ fun σ' h' _ => k σ' F1 H1 h'
theorem g_name : Tg g (gName i) d G (G.set i (.fz d)) [i] := fun v σ F H hh hd Q q => q _ (hh.setF hd) fun vs hv => wipe_set (hv i List.mem_cons_self)
theorem gs_nil : Tgs g gNil [] G G [] := fun vs σ F H hh hd Q q => by cases hd; exact ⟨rfl, q σ hh fun _ _ => rfl⟩
theorem gs_cons {t : TG} {u : TGs} (h1 : Tg g t d G G1 ix) (h2 : Tgs g u ds G1 G' ix') : Tgs g (gCons t u) (d :: ds) G G' (ix ++ ix') := fun vs σ F H hh hd Q q => by
  cases hd with
  | cons a b =>
    exact ⟨_, _, rfl, h1 _ σ F H hh a _ fun σ1 hh1 w1 => h2 _ σ1 F H hh1 b _ fun σ2 hh2 w2 => q σ2 hh2 fun vs hv =>
      (w2 vs fun j hj => hv j (List.mem_append_right _ hj)).trans (w1 vs fun j hj => hv j (List.mem_append_left _ hj))⟩
theorem g_tup {n : Nat} (h : Tgs g tgs ds G G' ix) (hn : ds.length = n) : Tg g (gTup g.K n tgs) (.tuple ds) G G' ix := fun v σ F H hh hd Q q => by
  obtain ⟨a, vs, rfl, h1, h2⟩ := dp_tq hd
  exact ⟨a, vs, rfl, hh.st.i.ex.t h1, (dps_len h2).trans hn, h vs σ F H hh h2 Q q⟩
theorem s_ret (h : E g te G d) (k : Rt g D.rt d) : S g (tRet te) D G := fun σ F H hh => h σ F H hh _ fun v F1 H1 s1 d1 => k v F1 H1 (hh.st.trans s1) d1
theorem s_retO (h : G[i]? = some (.ow ds)) (k : RtL g D.rt ds) : S g (tRet (tVar i)) D G := fun σ F H hh => by
  obtain ⟨o, e, p, vs, ev, h0, hF, hH, hd⟩ := hh.at_ h
  subst ev
  exact ⟨.ref p, e, k p vs F H hh.st h0 hF hH hd⟩
theorem RtL.of (h : Rt g D.rt (.list ds)) : RtL g D.rt ds := fun p vs F H s h0 hF hH hd => by
  have e : Ex F (upd F p (.lst vs)) := fun a u q _ => by rw [upd_ne (ne_of_none q hF)]; exact q
  refine h (.ref p) (upd F p (.lst vs)) H ⟨s.f.trans e, ⟨fun a u q n => ?_, fun a ps q => ?_⟩, s.h, s.s, s.t, fun a u q n => ?_⟩ (.lst (.inl (.inl upd_same)) (e.dps ds vs hd))
  · by_cases ha : a = p
    · subst ha; rw [upd_same] at q; cases q; exact hH
    · rw [upd_ne ha] at q; exact s.i.ex a u q n
  · by_cases ha : a = p
    · subst ha; rw [upd_same] at q; cases q
    · rw [upd_ne ha] at q; exact s.i.nt a ps q
  · rw [upd_ne (ne_of_none q h0)]; exact s.n a u q n
theorem s_if {b : Bool} (h : T g tt G b) (h1 : b = true → S g tu D G) (h2 : b = false → S g tw D G) : S g (tIfS tt tu tw) D G := fun σ F H hh => h σ F H hh _ fun F1 H1 s1 => by
  cases b with
  | true => exact h1 rfl σ F1 H1 (hh.mono s1)
  | false => exact h2 rfl σ F1 H1 (hh.mono s1)
theorem s_drop (h : E g te G d) (k : N g D.nx G) : S g (tDrop te) D G := fun σ F H hh => h σ F H hh _ fun v F1 H1 s1 _ => k σ F1 H1 (hh.mono s1)
theorem s_aug {f : Int → Int → Int} {a b : Int} (hx : G[i]? = some (.fz (.int a))) (h : E g te G (.int b)) (k : N g D.nx (G.set i (.fz (.int (f a b))))) : S g (tAug i te (ipI f)) D G := fun σ F H hh => by
  obtain ⟨o, e, v, ev, hd⟩ := hh.at_ hx
  subst ev
  cases hd
  refine ⟨.int a, e, h σ F H hh _ fun w F1 H1 s1 d1 => ?_⟩
  cases d1
  exact ⟨a, b, rfl, rfl, k _ F1 H1 ((hh.mono s1).setF (.int _))⟩
/-- xs.append(e) -/
theorem s_app (h : G[i]? = some (.ow ds)) (he : E g te G d) (hz : ds.length < 100000) (k : N g D.nx (G.set i (.ow (ds ++ [d])))) : S g (tDrop (tBM g.K "list" rAppend (tVar i) (tCons te tNil))) D G := fun σ F H hh => by
  obtain ⟨o, e, p, vs, ev, h0, hF, hH, hd⟩ := hh.at_ h
  subst ev
  refine ⟨.ref p, e, .inl ⟨rfl, vs, .inl (.inl hH)⟩, he σ F H hh _ fun v F1 H1 s1 d1 => ?_⟩
  have hH1 := s1.h.lst hH
  have hF1 := s1.n p _ hH hF
  refine ⟨p, vs, v, rfl, rfl, hH1, Nat.lt_of_lt_of_le (by rw [dps_len hd]; exact hz) (by decide), ?_⟩
  have hi : i < σ.length := (List.getElem?_eq_some_iff.mp e).1
  have hs : σ.set i (some (.ref p)) = σ := by
    apply List.ext_getElem?
    intro j
    by_cases hj : i = j
    · subst hj; rw [List.getElem?_set_self hi, e]
    · rw [List.getElem?_set_ne hj]
  have base := hh.mono s1
  -- forget the slot, change, set it again
  have h1 : Holds g (G.set i .un) σ F1 H1 := base.weak (by rw [List.length_set]) fun j s ej => by
    by_cases hj : i = j
    · subst hj; rw [List.getElem?_set_self (by rw [← hh.len]; exact hi)] at ej; cases ej; exact .inl rfl
    · rw [List.getElem?_set_ne hj] at ej; exact .inr ej
  have other : ∀ (j : Nat) (t : Sl), j ≠ i → G[j]? = some t → t.mine = true → σ[j]? ≠ some (some (.ref p)) := fun j t hj ej m z => hj (hh.apart j i t (.ow ds) p ej h m rfl z e)
  have h2 : Holds g (G.set i .un) σ F1 (upd H1 p (.lst (vs ++ [v]))) := h1.mut h0 hF1 hH1 (fun _ z => by cases z) fun j t ej m => by
    by_cases hj : i = j
    · subst hj; rw [List.getElem?_set_self (by rw [← hh.len]; exact hi)] at ej; cases ej; cases m
    · rw [List.getElem?_set_ne hj] at ej; exact other j t (Ne.symm hj) ej m
  have h3 := h2.setO (i := i) (ds := ds ++ [d]) h0 hF1 upd_same (dps_app (s1.f.dps ds vs hd) (.cons d1 .nil)) fun j hj ⟨t, ej, m⟩ => by
    rw [List.getElem?_set_ne (Ne.symm hj)] at ej; exact other j t hj ej m
  rw [List.set_set, hs] at h3
  exact k σ F1 _ h3
/-- a list of ours stays for good -/
theorem s_frz (h : G[i]? = some (.ow ds)) (k : S g tu D (G.set i (.fz (.list ds)))) : S g tu D G := fun σ F H hh => by
  obtain ⟨o, e, p, vs, ev, h0, hF, hH, hd⟩ := hh.at_ h
  subst ev
  have hi : i < σ.length := (List.getElem?_eq_some_iff.mp e).1
  have ex : Ex F (upd F p (.lst vs)) := fun a u q _ => by rw [upd_ne (ne_of_none q hF)]; exact q
  refine k σ (upd F p (.lst vs)) H ⟨by rw [List.length_set]; exact hh.len, ⟨hh.st.f.trans ex, ⟨fun a u q n => ?_, fun a ps q => ?_⟩, hh.st.h, hh.st.s, hh.st.t, fun a u q n => ?_⟩, fun j s o e1 e2 => ?_, fun j k s t q e1 e2 m1 m2 e3 e4 => ?_, hh.tab, hh.lo.trans ex⟩
  · by_cases ha : a = p
    · subst ha; rw [upd_same] at q; cases q; exact hH
    · rw [upd_ne ha] at q; exact hh.st.i.ex a u q n
  · by_cases ha : a = p
    · subst ha; rw [upd_same] at q; cases q
    · rw [upd_ne ha] at q; exact hh.st.i.nt a ps q
  · rw [upd_ne (ne_of_none q h0)]; exact hh.st.n a u q n
  · by_cases hj : i = j
    · subst hj
      rw [List.getElem?_set_self (by rw [← hh.len]; exact hi)] at e1
      cases e1
      rw [e] at e2; cases e2
      exact ⟨_, rfl, .lst (.inl (.inl upd_same)) (ex.dps ds vs hd)⟩
    · rw [List.getElem?_set_ne hj] at e1
      have q := hh.sl j s o e1 e2
      cases s with
      | un => trivial
      | fz d => obtain ⟨v, ev, hv⟩ := q; exact ⟨v, ev, ex.dp d v hv⟩
      | raw v => exact q
      | ow es =>
        obtain ⟨r, ws, er, q0, qF, qH, qd⟩ := q
        subst er
        refine ⟨r, ws, rfl, q0, ?_, qH, ex.dps es ws qd⟩
        rw [upd_ne (fun z => hj (hh.apart i j (.ow ds) (.ow es) p h e1 rfl rfl e (by rw [e2, z])))]; exact qF
      | od es =>
        obtain ⟨r, ws, er, q0, qF, qH, qd⟩ := q
        subst er
        refine ⟨r, ws, rfl, q0, ?_, qH, qd.mono ex⟩
        rw [upd_ne (fun z => hj (hh.apart i j (.ow ds) (.od es) p h e1 rfl rfl e (by rw [e2, z])))]; exact qF
      | fk es =>
        obtain ⟨r, ws, er, hr, qd⟩ := q
        exact ⟨r, ws, er, ex.rd hr (fun _ z => by cases z), qd.mono ex⟩
      | ob C =>
        obtain ⟨r, u, er, q0, qF, qH, qn, qC⟩ := q
        subst er
        refine ⟨r, u, rfl, q0, ?_, qH, qn, fun F2 e2 => qC F2 (ex.trans e2)⟩
        rw [upd_ne (fun z => hj (hh.apart i j (.ow ds) (.ob C) p h e1 rfl rfl e (by rw [e2, z])))]; exact qF
  · have a1 : i ≠ j := fun z => by subst z; rw [List.getElem?_set_self (by rw [← hh.len]; exact hi)] at e1; cases e1; cases m1
    have a2 : i ≠ k := fun z => by subst z; rw [List.getElem?_set_self (by rw [← hh.len]; exact hi)] at e2; cases e2; cases m2
    rw [List.getElem?_set_ne a1] at e1
    rw [List.getElem?_set_ne a2] at e2
    exact hh.apart j k s t q e1 e2 m1 m2 e3 e4
/-! ### what is walked -/
/-- at any later time the iterator goes through ds -/
structure Wd (K : PySem.W.Frag) (J : It) (ds : List PyData) (F1 : Hp) : Prop where
  go : ∀ i F H, Ex F1 F → Sub F H → i < ds.length → J.go i H
  stop : ∀ F H, Ex F1 F → Sub F H → J.stop ds.length H
  yld : ∀ i F H x H' d, Ex F1 F → Sub F H → ds[i]? = some d → J.yld i H x H' → ∃ F', Stp F H F' H' ∧ Dp K F' x d
def IT (g : Gd) (wi : TI) (G : List Sl) (ds : List PyData) : Prop := ∀ σ F H, Holds g G σ F H → ∀ R : It → Hp → Prop, (∀ J F1 H1, Stp F H F1 H1 → Wd g.K J ds F1 → R J H1) → wi σ H R
theorem it_list (h : E g te G (.list ds)) : IT g (iList g.K te) G ds := fun σ F H hh R r => h σ F H hh _ fun v F1 H1 s1 d1 => by
  obtain ⟨a, vs, rfl, h1, h2⟩ := dp_sq d1
  refine ⟨a, rfl, ⟨vs, s1.i.ex.l h1⟩, r _ F1 H1 s1 ⟨fun i F2 H2 e sb hi => ?_, fun F2 H2 e sb => ?_, fun i F2 H2 x H' d e sb hd hy => ?_⟩⟩
  · have hi' : i < vs.length := by rw [dps_len h2]; exact hi
    exact ⟨vs, vs[i], sb.ex.l (e.l h1), List.getElem?_eq_getElem hi'⟩
  · exact ⟨vs, sb.ex.l (e.l h1), by rw [dps_len h2]; exact Nat.le_refl _⟩
  · obtain ⟨rfl, q⟩ := hy
    obtain ⟨w, e1, e2⟩ := dps_get h2 hd
    have e3 := q vs (sb.ex.l (e.l h1))
    rw [e1] at e3; cases e3
    exact ⟨F2, Stp.refl sb, e.dp d _ e2⟩
theorem it_tup (h : E g te G (.tuple ds)) : IT g (iTup g.K te) G ds := fun σ F H hh R r => h σ F H hh _ fun v F1 H1 s1 d1 => by
  obtain ⟨a, vs, rfl, h1, h2⟩ := dp_tq d1
  refine ⟨a, rfl, ⟨vs, s1.i.ex.t h1⟩, r _ F1 H1 s1 ⟨fun i F2 H2 e sb hi => ?_, fun F2 H2 e sb => ?_, fun i F2 H2 x H' d e sb hd hy => ?_⟩⟩
  · have hi' : i < vs.length := by rw [dps_len h2]; exact hi
    exact ⟨vs, vs[i], sb.ex.t (e.t h1), List.getElem?_eq_getElem hi'⟩
  · exact ⟨vs, sb.ex.t (e.t h1), by rw [dps_len h2]; exact Nat.le_refl _⟩
  · obtain ⟨rfl, q⟩ := hy
    obtain ⟨w, e1, e2⟩ := dps_get h2 hd
    have e3 := q vs (sb.ex.t (e.t h1))
    rw [e1] at e3; cases e3
    exact ⟨F2, Stp.refl sb, e.dp d _ e2⟩
/-- a list or a tuple -/
def iSeq (K : PySem.W.Frag) (te : TE) : TI := fun σ H R => iList K te σ H R ∨ iTup K te σ H R
theorem it_sl (h : E g te G (.list ds)) : IT g (iSeq g.K te) G ds := fun σ F H hh R r => .inl (it_list h σ F H hh R r)
theorem it_st (h : E g te G (.tuple ds)) : IT g (iSeq g.K te) G ds := fun σ F H hh R r => .inr (it_tup h σ F H hh R r)
theorem pi_seq {X : Cx} {tg l : Expr} {tl : TE} (hl : PE X l tl) : PI X tg l (iSeq X.K tl) := ⟨fun pins s σ H R I h => by
  rcases h with h | h
  · exact (pi_list hl).run pins s σ H R I h
  · exact (pi_tup hl).run pins s σ H R I h⟩
/-- the ints from lo on -/
def rngD (lo : Int) (n : Nat) : List PyData := (List.range n).map fun i => .int (lo + (i : Nat))
theorem rngD_len (lo : Int) (n : Nat) : (rngD lo n).length = n := by unfold rngD; rw [List.length_map, List.length_range]
theorem rngD_get {lo : Int} {n i : Nat} {d : PyData} (h : (rngD lo n)[i]? = some d) : i < n ∧ d = .int (lo + (i : Nat)) := by
  unfold rngD at h
  rw [List.getElem?_map] at h
  by_cases hi : i < n
  · rw [List.getElem?_range hi] at h; exact ⟨hi, (Option.some.inj h).symm⟩
  · rw [List.getElem?_eq_none (by rw [List.length_range]; omega)] at h; cases h
theorem wd_rng {K : PySem.W.Frag} {lo : Int} {n : Nat} {F1 : Hp} : Wd K (Itr lo n) (rngD lo n) F1 :=
  ⟨fun i F H _ _ hi => by rw [rngD_len] at hi; exact hi, fun F H _ _ => by rw [rngD_len]; exact Nat.le_refl _, fun i F H x H' d _ sb hd hy => by
    obtain ⟨rfl, rfl⟩ := hy
    obtain ⟨_, rfl⟩ := rngD_get hd
    exact ⟨F, Stp.refl sb, .int _⟩⟩
theorem it_rng1 {ta : TA} {n : Int} (h : A g ta G [.int n]) (h1 : -100000000 ≤ n) (h2 : n ≤ 100000000) : IT g (iRng1 ta) G (rngD 0 n.toNat) := fun σ F H hh R r => h σ F H hh _ fun vs F1 H1 s1 d1 => by
  cases d1 with
  | cons a t => cases t; cases a; exact ⟨n, rfl, by omega, by omega, r _ F1 H1 s1 wd_rng⟩
theorem it_rng2 {ta : TA} {lo hi : Int} (h : A g ta G [.int lo, .int hi]) (h1 : -100000000 ≤ lo) (h2 : lo ≤ 100000000) (h3 : -100000000 ≤ hi) (h4 : hi ≤ 100000000) : IT g (iRng2 ta) G (rngD lo (hi - lo).toNat) := fun σ F H hh R r => h σ F H hh _ fun vs F1 H1 s1 d1 => by
  cases d1 with
  | cons a t =>
    cases t with
    | cons b t => cases t; cases a; cases b; exact ⟨lo, hi, rfl, ⟨by omega, by omega, by omega, by omega⟩, r _ F1 H1 s1 wd_rng⟩
/-! ### for, while -/
/-- some state of the turn holds -/
def nxI (g : Gd) {α : Type} (Iv : α → List Sl) (P : α → Prop) : L2.St → Hp → Prop := fun σ H => ∃ a, P a ∧ ∃ F, Holds g (Iv a) σ F H
theorem n_end {α : Type} {Iv : α → List Sl} {P : α → Prop} (a : α) (p : P a) (w : Wk G (Iv a)) : N g (nxI g Iv P) G := fun σ F H hh => ⟨a, p, F, hh.wk w⟩
theorem s_for {α : Type} {wi : TI} (Iv : Nat → α → List Sl) (P : Nat → α → Prop) (it : IT g wi G ds) (a0 : α) (p0 : P 0 a0) (w0 : Wk G (Iv 0 a0))
    (turn : ∀ F1 (i : Nat) (a : α) (d : PyData), ds[i]? = some d → P i a → ∃ G1 ix, Tg { g with Fl := F1 } tg d (Iv i a) G1 ix ∧
      S { g with Fl := F1 } tu { D with nx := nxI { g with Fl := F1 } (Iv (i + 1)) (P (i + 1)), ct := nxI { g with Fl := F1 } (Iv (i + 1)) (P (i + 1)), bk := D.nx } G1)
    (done : ∀ a, P ds.length a → N g D.nx (Iv ds.length a)) : S g (tFor wi tg tu) D G := fun σ F H hh => it σ F H hh _ fun J F1 H1 s1 W => by
  have up : ∀ {G : List Sl} {σ : L2.St} {F H : Hp}, Ex g.Fl F1 → Holds { g with Fl := F1 } G σ F H → Holds g G σ F H := fun e h => ⟨h.len, h.st, h.sl, h.apart, h.tab, e.trans h.lo⟩
  have el : Ex g.Fl F1 := hh.lo.trans s1.f
  refine ⟨fun i m σ H => m = ds.length - i ∧ i ≤ ds.length ∧ nxI { g with Fl := F1 } (Iv i) (P i) σ H, ⟨ds.length, by simp, Nat.zero_le _, a0, p0, F1, ?_⟩, ?_⟩
  · have h1 := (hh.mono s1).wk w0
    exact ⟨h1.len, h1.st, h1.sl, h1.apart, h1.tab, Ex.refl F1⟩
  · rintro i m σ2 H2 ⟨rfl, hi, a, p, F2, hh2⟩
    by_cases hlt : i < ds.length
    · refine .inr ⟨W.go i F2 H2 hh2.lo hh2.st.i hlt, nxI { g with Fl := F1 } (Iv (i + 1)) (P (i + 1)), fun σ' H' q => ⟨ds.length - (i + 1), by omega, rfl, hlt, q⟩, fun x H' y => ?_⟩
      obtain ⟨F3, s3, d3⟩ := W.yld i F2 H2 x H' ds[i] hh2.lo hh2.st.i (List.getElem?_eq_getElem hlt) y
      obtain ⟨G1, ix, ht, hs⟩ := turn F1 i a ds[i] (List.getElem?_eq_getElem hlt) p
      exact ht x σ2 F3 H' (hh2.mono s3) d3 _ fun σ' h' _ => hs σ' F3 H' h'
    · have e : i = ds.length := by omega
      subst e
      exact .inl ⟨W.stop F2 H2 hh2.lo hh2.st.i, done a p σ2 F2 H2 (up el hh2)⟩
theorem s_while {α : Type} (Iv : α → List Sl) (P : α → Prop) (m : α → Nat) (a0 : α) (p0 : P a0) (w0 : Wk G (Iv a0))
    (turn : ∀ a, P a → ∃ b, T g tt (Iv a) b ∧ (b = true → S g tu { D with nx := nxI g Iv (fun a' => P a' ∧ m a' < m a), ct := nxI g Iv (fun a' => P a' ∧ m a' < m a), bk := D.nx } (Iv a)) ∧ (b = false → N g D.nx (Iv a))) : S g (tWhile tt tu) D G := fun σ F H hh => by
  refine ⟨fun n σ H => ∃ a, n = m a ∧ P a ∧ ∃ F, Holds g (Iv a) σ F H, ⟨_, a0, rfl, p0, F, hh.wk w0⟩, ?_⟩
  rintro n σ2 H2 ⟨a, rfl, p, F2, hh2⟩
  obtain ⟨b, ht, h1, h2⟩ := turn a p
  refine ht σ2 F2 H2 hh2 _ fun F3 H3 s3 => ?_
  cases b with
  | true => exact ⟨_, fun σ' H' ⟨a', ⟨p', l⟩, F', h'⟩ => ⟨m a', l, a', rfl, p', F', h'⟩, h1 rfl σ2 F3 H3 (hh2.mono s3)⟩
  | false => exact h2 rfl σ2 F3 H3 (hh2.mono s3)
/-! ### comprehensions -/
def wipeG (G : List Sl) : List Nat → List Sl
  | [] => G
  | v :: vs => (wipeG G vs).set v .un
theorem Holds.wipe {σ : L2.St} {F H : Hp} (h : Holds g G σ F H) : ∀ vs, Holds g (wipeG G vs) (wipe σ vs) F H
  | [] => h
  | v :: vs => by
    have ih := Holds.wipe h vs
    unfold wipeG L2.wipe
    refine ⟨by rw [List.length_set, List.length_set]; exact ih.len, ih.st, fun j s o e1 e2 => ?_, fun j k s t p e1 e2 m1 m2 e3 e4 => ?_, ih.tab, ih.lo⟩
    · by_cases hj : v = j
      · subst hj
        have hi : v < (wipeG G vs).length := by have := (List.getElem?_eq_some_iff.mp e1).1; rwa [List.length_set] at this
        rw [List.getElem?_set_self hi] at e1; cases e1; trivial
      · rw [List.getElem?_set_ne hj] at e1 e2; exact ih.sl j s o e1 e2
    · by_cases hj : v = j
      · subst hj
        have hi : v < (wipeG G vs).length := by have := (List.getElem?_eq_some_iff.mp e1).1; rwa [List.length_set] at this
        rw [List.getElem?_set_self hi] at e1; cases e1; cases m1
      · by_cases hk : v = k
        · subst hk
          have hi : v < (wipeG G vs).length := by have := (List.getElem?_eq_some_iff.mp e2).1; rwa [List.length_set] at this
          rw [List.getElem?_set_self hi] at e2; cases e2; cases m2
        · rw [List.getElem?_set_ne hj] at e1 e3
          rw [List.getElem?_set_ne hk] at e2 e4
          exact ih.apart j k s t p e1 e2 m1 m2 e3 e4
theorem t_yes : T g tYes G true := fun σ F H hh Q q => q F H (Stp.refl hh.st.i)
theorem filt_take {f : PyData → Option PyData} {l : List PyData} {i : Nat} {d : PyData} (h : l[i]? = some d) : (l.take (i + 1)).filterMap f = (l.take i).filterMap f ++ (match f d with | some y => [y] | none => []) := by
  rw [List.take_add_one, h, List.filterMap_append]
  cases e : f d with
  | none => simp [e]
  | some y => simp [e]
theorem el_lc {wi : TI} {vs : List Nat} (f : PyData → Option PyData) (G1 : PyData → List Sl) (it : IT g wi G ds) (hz : ds.length ≤ 40000)
    (tgt : ∀ F1, ∀ d ∈ ds, Tg { g with Fl := F1 } tg d (wipeG G vs) (G1 d) ix) (hix : ∀ j ∈ ix, j ∈ vs)
    (ht : ∀ F1, ∀ d ∈ ds, T { g with Fl := F1 } tt (G1 d) (f d).isSome) (he : ∀ F1, ∀ d ∈ ds, ∀ y, f d = some y → E { g with Fl := F1 } te (G1 d) y) : EL g (tLc wi tg tt te vs) G (ds.filterMap f) := fun σ F H hh Q q => it σ F H hh _ fun J F1 H1 s1 W Dl hD => by
  have hh1 := hh.mono s1
  have hw := Holds.wipe hh1 vs
  have hwl : Holds { g with Fl := F1 } (wipeG G vs) (wipe σ vs) F1 H1 := ⟨hw.len, hw.st, hw.sl, hw.apart, hw.tab, Ex.refl F1⟩
  have hD0 : g.H0 Dl = none := old_free hh1.st hD
  have nw := new_ok hwl hD
  let Pv : Nat → Hp → Prop := fun i H' => ∃ F' ws, Stp F1 H1 F' H' ∧ Holds { g with Fl := F1 } (wipeG G vs) (wipe σ vs) F' H' ∧ F' Dl = none ∧ H' Dl = some (.lst ws) ∧ DpAll g.K F' ws ((ds.take i).filterMap f)
  have flen : ∀ i, ((ds.take i).filterMap f).length ≤ 40000 := fun i => Nat.le_trans (List.length_filterMap_le _ _) (by rw [List.length_take]; omega)
  refine ⟨fun i m H' => m = ds.length - i ∧ i ≤ ds.length ∧ Pv i H', ⟨ds.length, by simp, Nat.zero_le _, F1, [], Stp.mine s1.i hD, hwl.mono (Stp.mine s1.i hD), s1.i.free hD, upd_same, .nil⟩, ?_⟩
  rintro i m H2 ⟨rfl, hi, F2, ws, s2, hh2, hF2, hH2, hd2⟩
  by_cases hlt : i < ds.length
  · have hget := List.getElem?_eq_getElem hlt
    have hmem : ds[i] ∈ ds := List.getElem_mem hlt
    refine .inr ⟨W.go i F2 H2 hh2.lo hh2.st.i hlt, Pv (i + 1), fun H' p' => ⟨ds.length - (i + 1), by omega, rfl, hlt, p'⟩, fun x H3 y => ?_⟩
    obtain ⟨F3, s3, d3⟩ := W.yld i F2 H2 x H3 ds[i] hh2.lo hh2.st.i hget y
    refine tgt F1 ds[i] hmem x (wipe σ vs) F3 H3 (hh2.mono s3) d3 _ fun σ3 hh3 w3 => ⟨?_, ?_⟩
    · rw [w3 vs hix]
      have ww : ∀ (l : List Nat), (∀ j ∈ l, j ∈ vs) → wipe (wipe σ l) vs = wipe σ vs := by
        intro l
        induction l with
        | nil => intro _; rfl
        | cons v l ih => intro hl; show wipe ((wipe σ l).set v none) vs = _; rw [wipe_set (hl v List.mem_cons_self)]; exact ih fun j hj => hl j (List.mem_cons_of_mem _ hj)
      exact ww vs fun _ h => h
    · refine ht F1 ds[i] hmem σ3 F3 H3 hh3 _ fun F4 H4 s4 => ?_
      have e : (ds.take (i + 1)).filterMap f = _ := filt_take (f := f) hget
      cases hf : f ds[i] with
      | none =>
        show Pv (i + 1) H4
        rw [hf] at e
        have ss := s3.trans s4
        exact ⟨F4, ws, s2.trans ss, hh2.mono ss, ss.n Dl _ hH2 hF2, ss.h.lst hH2, by rw [e, List.append_nil]; exact ss.f.dps _ ws hd2⟩
      | some yv =>
        show te σ3 H4 _
        rw [hf] at e
        refine he F1 ds[i] hmem yv hf σ3 F4 H4 (hh3.mono s4) _ fun w F5 H5 s5 d5 => ?_
        have ss := (s3.trans s4).trans s5
        have hF5 := ss.n Dl _ hH2 hF2
        have hH5 := ss.h.lst hH2
        refine ⟨ws, hH5, Nat.lt_of_le_of_lt (by rw [dps_len hd2]; exact flen i) (by decide), F5, ws ++ [w], (s2.trans ss).mut hD hF5 hH5 (fun _ z => by cases z), (hh2.mono ss).mut hD0 hF5 hH5 (fun _ z => by cases z) (fun j t e1 m e2 => nw j ⟨t, e1, m⟩ e2), hF5, upd_same, ?_⟩
        rw [e]
        exact dps_app (ss.f.dps _ ws hd2) (.cons d5 .nil)
  · have e : i = ds.length := by omega
    subst e
    rw [List.take_length] at hd2
    exact .inl ⟨W.stop F2 H2 hh2.lo hh2.st.i, q Dl ws F2 H2 (s1.trans s2) (old_free s1 hD) hF2 hH2 hd2⟩
end
/-! ### defs -/
/-- the promise by data: R tells the answer -/
def spD (K : PySem.W.Frag) (Tb : List Addr) (R : List PyData → PyData → Prop) : Sp := fun vs H Q _ => ∃ F ds d, Sub F H ∧ (∀ P ∈ Tb, GxR.TabG H P) ∧ DpAll K F vs ds ∧ R ds d ∧ ∀ v F' H', Stp F H F' H' → Dp K F' v d → Q v H'
/-- .. a new list, the caller's alone -/
def spL (K : PySem.W.Frag) (Tb : List Addr) (R : List PyData → List PyData → Prop) : Sp := fun vs H Q _ => ∃ F ds es, Sub F H ∧ (∀ P ∈ Tb, GxR.TabG H P) ∧ DpAll K F vs ds ∧ R ds es ∧ ∀ p ws F' H', Stp F H F' H' → H p = none → F' p = none → H' p = some (.lst ws) → DpAll K F' ws es → Q (.ref p) H'
def startG (n : Nat) (ds : List PyData) : List Sl := ds.map .fz ++ List.replicate (n - ds.length) .un
theorem holds_start {K : PySem.W.Frag} {Tb : List Addr} {F H : Hp} {vs : List V} {ds : List PyData} {Nn : List Str} (sb : Sub F H) (ht : ∀ P ∈ Tb, GxR.TabG H P) (hd : DpAll K F vs ds) : Holds ⟨K, Tb, F, H, F⟩ (startG Nn.length ds) (L2.start Nn vs) F H := by
  have hl := dps_len hd
  refine ⟨by unfold L2.start startG; rw [List.length_append, List.length_append, List.length_map, List.length_map, List.length_replicate, List.length_replicate, hl], Stp.refl sb, fun j s o e1 e2 => ?_, fun j k s t p e1 _ m1 _ _ _ => ?_, ht, Ex.refl F⟩
  · unfold startG at e1
    unfold L2.start at e2
    by_cases hj : j < ds.length
    · rw [List.getElem?_append_left (by rw [List.length_map]; exact hj), List.getElem?_map] at e1
      rw [List.getElem?_append_left (by rw [List.length_map, hl]; exact hj), List.getElem?_map] at e2
      cases h1 : ds[j]? with
      | none => rw [h1] at e1; cases e1
      | some d =>
        rw [h1] at e1; cases e1
        obtain ⟨v, h2, h3⟩ := dps_get hd h1
        rw [h2] at e2; cases e2
        exact ⟨v, rfl, h3⟩
    · rw [List.getElem?_append_right (by rw [List.length_map]; omega), List.getElem?_replicate] at e1
      split at e1
      · cases e1; trivial
      · cases e1
  · have no : ∀ (s : Sl), (startG Nn.length ds)[j]? = some s → s.mine = false := fun s e => by
      unfold startG at e
      rcases List.mem_append.mp (List.mem_of_getElem? e) with h | h
      · obtain ⟨d, _, rfl⟩ := List.mem_map.mp h; rfl
      · rw [(List.mem_replicate.mp h).2]; rfl
    rw [no s e1] at m1; cases m1
section
variable {g : Gd} {G : List Sl} {te : TE} {ta : TA} {d : PyData} {ds es : List PyData}
theorem Stp.back {F F1 H F' H' : Hp} (sb : Sub F H) (s : Stp F1 H F' H') : Stp F H F H' := ⟨Ex.refl F, ⟨sb.ex.trans s.h, sb.nt⟩, s.h, s.s, s.t, fun _ _ _ n => n⟩
theorem e_call {R : List PyData → PyData → Prop} {Ek : XK} (h : A g ta G ds) (r : R ds d) : E g (tCall (spD g.K g.T R) [] Ek ta) G d := fun σ F H hh Q q => h σ F H hh _ fun vs F1 H1 s1 d1 => by
  rw [List.append_nil]
  exact ⟨F1, ds, d, s1.i, (hh.mono s1).tab, d1, r, fun v F2 H2 s2 d2 => q v F2 H2 (s1.trans s2) d2⟩
end
/-- a def at hand: where it stands and what it promises -/
structure Df (P : Program) (w : World) (K : PySem.W.Frag) (mg : Str → Option Value) (base : Heap) (k : Nat) (x : Str) (ps : List Str) (sp : Sp) : Prop where
  ex : ∃ f fd, FnOk P w K mg base CX0 k f fd ps sp ∧ mg x = some (.ref f) ∧ PySem.W.keepIn K (.ref f) = true ∧ Binds K fd ps []
theorem pe_df {X : Cx} {k j : Nat} {x : Str} {ps : List Str} {sp : Sp} {e : Expr} {es : List Expr} {t : TA} {p pos : Pos} (D : Df X.prog X.w X.K X.mg X.base j x ps sp) (hr : Room k X.A) (hj : j ≤ k) (hg : Gl X x) (ha : PA X (e :: es) t) (hdb : (x == ("__debug__" : Str)) = false := by decide)
    (he : starEach (e :: es) X.env = (false, eval e X.env) :: starEach es X.env := by rfl) (hpl : (backTo pos (starEach es X.env)).any (·.1) = false := by rfl) : PE X (.Call (.Name x p) (e :: es) [] pos) (tCall sp [] E0 t) := by
  obtain ⟨f, fd, F, hm, hk, hb⟩ := D.ex
  exact pe_call F (hr.mono hj) hg hm hk hb .nil pass0 ha hdb he hpl
section
variable {P : Program} {w : World} {K : PySem.W.Frag} {mg : Str → Option Value} {base : Heap} {x qual : Str} {st : Stmt} {f : Addr} {fd : FuncData} {Nn ps : List Str} {k : Nat} {Tb : List Addr}
/-- a def that gives data -/
theorem df_D (F : Fun K x qual st f fd) (Sc : FnScope Nn ps (defScope st)) (hm : mg x = some (.ref f)) (hb : Binds K fd ps []) {R : List PyData → PyData → Prop} (hlen : ∀ ds d, R ds d → ds.length = ps.length)
    (body : ∀ (cdv : Value) (A : Around) (outer : List Env) (s : Shared) (H : Hp) (E : XK), Room k (A.deeper (envOfC qual (defScope st) s.heap.objs.size f cdv)) →
      ∃ t, PSs (cxOf CX0 P w K mg base Nn qual (defScope st) f cdv A outer s H E).nox (defBody st) t ∧ ∀ (ds : List PyData) (d : PyData) (F0 H0 : Hp) (Q : VK), R ds d → Rt ⟨K, Tb, F0, H0, F0⟩ Q d → S ⟨K, Tb, F0, H0, F0⟩ t { nx := fun _ H' => Q .non H', rt := Q } (startG Nn.length ds)) :
    Df P w K mg base (k + 1) x ps (spD K Tb R) := by
  refine ⟨f, fd, F.ok Sc (fun vs H Q E h => ?_) (fun cdv A outer s H vs Q E hr h => ?_), hm, F.kp, hb⟩
  · obtain ⟨F, ds, d, _, _, hd, r, _⟩ := h
    exact (dps_len hd).trans (hlen ds d r)
  · obtain ⟨F1, ds, d, sb, ht, hd, r, q⟩ := h
    obtain ⟨t, h1, h2⟩ := body cdv A outer s H E hr
    exact ⟨t, h1, h2 ds d F1 H Q r q _ F1 H (holds_start sb ht hd)⟩
end
end DW
namespace DW
open PySem PySem.Spec PyProof.Rows L2
/-- the built-in names that the module leaves alone -/
structure Zb (mg : Str → Option Value) : Prop where
  len : mg "len" = none
  range : mg "range" = none
  sorted : mg "sorted" = none
  list : mg "list" = none
  tuple : mg "tuple" = none
  int : mg "int" = none
  bool : mg "bool" = none
  str : mg "str" = none
  dict : mg "dict" = none
  set : mg "set" = none
  isinstance : mg "isinstance" = none
  sum : mg "sum" = none
  min : mg "min" = none
  max : mg "max" = none
  enumerate : mg "enumerate" = none
  zip : mg "zip" = none
  any : mg "any" = none
  all : mg "all" = none
  abs : mg "abs" = none
  reversed : mg "reversed" = none
/-- a list, a tuple or a text -/
def iAny (K : PySem.W.Frag) (te : TE) : TI := fun σ H R => iSeq K te σ H R ∨ iStr te σ H R
theorem pi_any {X : Cx} {tg l : Expr} {tl : TE} (hl : PE X l tl) : PI X tg l (iAny X.K tl) := ⟨fun pins s σ H R I h => by
  rcases h with h | h
  · exact (pi_seq hl).run pins s σ H R I h
  · exact (pi_str hl).run pins s σ H R I h⟩
section
variable {g : Gd} {G G' G1 : List Sl} {te ta tb tc : TE} {d x y : PyData} {ds es : List PyData} {i j : Nat}
theorem it_al (h : E g te G (.list ds)) : IT g (iAny g.K te) G ds := fun σ F H hh R r => .inl (it_sl h σ F H hh R r)
theorem it_at (h : E g te G (.tuple ds)) : IT g (iAny g.K te) G ds := fun σ F H hh R r => .inl (it_st h σ F H hh R r)
/-- a constant of the module -/
theorem pe_gc {X : Cx} {x : Str} {v : V} {pos : Pos} (C : ∃ u, X.mg x = some u ∧ RelV v u) (hg : Gl X x) (hd : (x == ("__debug__" : Str)) = false := by decide) : PE X (.Name x pos) (tC v) := by
  obtain ⟨u, h1, h2⟩ := C
  exact pe_glob hg h1 h2 hd
end
/-! ### a statement and what follows it -/
section
variable {g : Gd} {G G' G1 : List Sl} {te ta tb tc : TE} {tt : TT} {t1 t2 tu tw : TS} {d x y : PyData} {ds es : List PyData} {i j : Nat} {D : Ends} {tg : TG} {ix : List Nat}
theorem n_go {rt : VK} {bk ct : L2.St → Hp → Prop} (h : S g tw D G) : N g ({ nx := tw D, rt := rt, bk := bk, ct := ct } : Ends).nx G := h
theorem q_asg (h : E g te G d) (k : S g tw D (G.set i (.fz d))) : S g (tSeq (tAsg te (gName i)) tw) D G := s_asg (D := { D with nx := tw D }) h k
theorem q_asgL (h : EL g te G ds) (k : S g tw D (G.set i (.ow ds))) : S g (tSeq (tAsg te (gName i)) tw) D G := s_asgL (D := { D with nx := tw D }) h k
theorem q_asgT (h : E g te G d) (ht : Tg g tg d G G' ix) (k : S g tw D G') : S g (tSeq (tAsg te tg) tw) D G := s_asgT (D := { D with nx := tw D }) h ht k
theorem q_app (h : G[i]? = some (.ow ds)) (he : E g te G d) (hz : ds.length < 100000) (k : S g tw D (G.set i (.ow (ds ++ [d])))) : S g (tSeq (tDrop (tBM g.K "list" rAppend (tVar i) (tCons te tNil))) tw) D G := s_app (D := { D with nx := tw D }) h he hz k
theorem q_drop (h : E g te G d) (k : S g tw D G) : S g (tSeq (tDrop te) tw) D G := s_drop (D := { D with nx := tw D }) h k
theorem q_aug {f : Int → Int → Int} {a b : Int} (hx : G[i]? = some (.fz (.int a))) (h : E g te G (.int b)) (k : S g tw D (G.set i (.fz (.int (f a b))))) : S g (tSeq (tAug i te (ipI f)) tw) D G := s_aug (D := { D with nx := tw D }) hx h k
theorem q_if {b : Bool} (h : T g tt G b) (h1 : b = true → S g t1 { D with nx := tw D } G) (h2 : b = false → S g t2 { D with nx := tw D } G) : S g (tSeq (tIfS tt t1 t2) tw) D G := s_if (D := { D with nx := tw D }) h h1 h2
theorem q_for {α : Type} {wi : TI} (Iv : Nat → α → List Sl) (P : Nat → α → Prop) (it : IT g wi G ds) (a0 : α) (p0 : P 0 a0) (w0 : Wk G (Iv 0 a0))
    (turn : ∀ F1 (i : Nat) (a : α) (d : PyData), ds[i]? = some d → P i a → ∃ G1 ix, Tg { g with Fl := F1 } tg d (Iv i a) G1 ix ∧
      S { g with Fl := F1 } tu { nx := nxI { g with Fl := F1 } (Iv (i + 1)) (P (i + 1)), rt := D.rt, ct := nxI { g with Fl := F1 } (Iv (i + 1)) (P (i + 1)), bk := tw D } G1)
    (done : ∀ a, P ds.length a → S g tw D (Iv ds.length a)) : S g (tSeq (tFor wi tg tu) tw) D G := s_for (D := { D with nx := tw D }) Iv P it a0 p0 w0 turn done
/-- .. one state a turn -/
theorem q_for1 {wi : TI} (Iv : Nat → List Sl) (it : IT g wi G ds) (w0 : Wk G (Iv 0))
    (turn : ∀ F1 (i : Nat) (d : PyData), ds[i]? = some d → ∃ G1 ix, Tg { g with Fl := F1 } tg d (Iv i) G1 ix ∧
      S { g with Fl := F1 } tu { nx := nxI { g with Fl := F1 } (fun _ : Unit => Iv (i + 1)) (fun _ => True), rt := D.rt, ct := nxI { g with Fl := F1 } (fun _ : Unit => Iv (i + 1)) (fun _ => True), bk := tw D } G1)
    (done : S g tw D (Iv ds.length)) : S g (tSeq (tFor wi tg tu) tw) D G :=
  q_for (fun i (_ : Unit) => Iv i) (fun _ _ => True) it () trivial w0 (fun F1 i _ d hd _ => turn F1 i d hd) fun _ _ => done
theorem s_for1 {wi : TI} (Iv : Nat → List Sl) (it : IT g wi G ds) (w0 : Wk G (Iv 0))
    (turn : ∀ F1 (i : Nat) (d : PyData), ds[i]? = some d → ∃ G1 ix, Tg { g with Fl := F1 } tg d (Iv i) G1 ix ∧
      S { g with Fl := F1 } tu { nx := nxI { g with Fl := F1 } (fun _ : Unit => Iv (i + 1)) (fun _ => True), rt := D.rt, ct := nxI { g with Fl := F1 } (fun _ : Unit => Iv (i + 1)) (fun _ => True), bk := D.nx } G1)
    (done : N g D.nx (Iv ds.length)) : S g (tFor wi tg tu) D G :=
  s_for (fun i (_ : Unit) => Iv i) (fun _ _ => True) it () trivial w0 (fun F1 i _ d hd _ => turn F1 i d hd) fun _ _ => done
theorem s_cutA {α : Type} (Iv : α → List Sl) (P : α → Prop) (h : S g tu { D with nx := nxI g Iv P } G) (k : ∀ a, P a → S g tw D (Iv a)) : S g (Evl.tCut tu tw) D G := fun σ F H hh =>
  ⟨nxI g Iv P, h σ F H hh, fun σ' H' ⟨a, p, F', h'⟩ => k a p σ' F' H' h'⟩
theorem s_cut (Gj : List Sl) (h : S g tu { D with nx := nxI g (fun _ : Unit => Gj) fun _ => True } G) (k : S g tw D Gj) : S g (Evl.tCut tu tw) D G := s_cutA (fun _ : Unit => Gj) (fun _ => True) h fun _ _ => k
theorem n_end1 {Iv : List Sl} (w : Wk G Iv) : N g (nxI g (fun _ : Unit => Iv) fun _ => True) G := n_end () trivial w
theorem q_while {α : Type} (Iv : α → List Sl) (P : α → Prop) (m : α → Nat) (a0 : α) (p0 : P a0) (w0 : Wk G (Iv a0))
    (turn : ∀ a, P a → ∃ b, T g tt (Iv a) b ∧ (b = true → S g tu { nx := nxI g Iv (fun a' => P a' ∧ m a' < m a), rt := D.rt, ct := nxI g Iv (fun a' => P a' ∧ m a' < m a), bk := tw D } (Iv a)) ∧ (b = false → S g tw D (Iv a))) : S g (tSeq (tWhile tt tu) tw) D G :=
  s_while (D := { D with nx := tw D }) Iv P m a0 p0 w0 turn
end
end DW
namespace DW
open PySem PySem.Spec PyProof.Rows L2
/-! ### sorted(a list of tuples of ints and texts) -/
/-! .. by data -/
end DW
namespace DW
open PySem PySem.Spec PyProof.Rows L2
/-! ### dicts with text keys, by data -/
def getK (kvs : List (Str × PyData)) (k : Str) : Option PyData := (kvs.find? fun p => decide (p.1 = k)).map (·.2)
def putD (kvs : List (Str × PyData)) (k : Str) (d : PyData) : List (Str × PyData) := if (kvs.any fun p => decide (p.1 = k)) = true then kvs.map (fun p => if p.1 = k then (p.1, d) else p) else kvs ++ [(k, d)]
section
variable {K : PySem.W.Frag} {F H : Hp}
theorem kv_nil : KvOk K F [] [] := ⟨rfl, .nil⟩
theorem kv_cons {u : Key × V} {vs : List (Key × V)} {p : Str × PyData} {kvs : List (Str × PyData)} (h : KvOk K F (u :: vs) (p :: kvs)) : u.1 = Sum.inr p.1 ∧ Dp K F u.2 p.2 ∧ KvOk K F vs kvs := by
  obtain ⟨h1, h2⟩ := h
  rw [List.map_cons, List.map_cons] at h1 h2
  injection h1 with a b
  cases h2 with
  | cons c d => exact ⟨a, c, b, d⟩
theorem kv_mk {u : Key × V} {vs : List (Key × V)} {p : Str × PyData} {kvs : List (Str × PyData)} (a : u.1 = Sum.inr p.1) (b : Dp K F u.2 p.2) (h : KvOk K F vs kvs) : KvOk K F (u :: vs) (p :: kvs) :=
  ⟨by rw [List.map_cons, List.map_cons, a, h.ks], .cons b h.ds⟩
theorem kv_len {vs : List (Key × V)} {kvs : List (Str × PyData)} (h : KvOk K F vs kvs) : vs.length = kvs.length := by
  have := congrArg List.length h.ks
  rwa [List.length_map, List.length_map] at this
theorem inr_dec {x y : Str} : decide ((Sum.inr x : Key) = Sum.inr y) = decide (x = y) := by
  by_cases h : x = y
  · rw [decide_eq_true h, decide_eq_true (by rw [h])]
  · rw [decide_eq_false h, decide_eq_false fun z => h (Sum.inr.inj z)]
theorem kv_get {k : Str} : ∀ {vs : List (Key × V)} {kvs : List (Str × PyData)}, KvOk K F vs kvs → (∀ d, getK kvs k = some d → ∃ v, valV vs (Sum.inr k : Key) = some v ∧ Dp K F v d) ∧ (getK kvs k = none → valV vs (Sum.inr k : Key) = none)
  | [], [], _ => ⟨fun d h => (by cases h), fun _ => rfl⟩
  | [], _ :: _, h => by cases h.ks
  | _ :: _, [], h => by cases h.ks
  | u :: vs, p :: kvs, h => by
    obtain ⟨a, b, c⟩ := kv_cons h
    have ih := kv_get (k := k) c
    unfold getK valV at ih ⊢
    rw [List.find?_cons, List.find?_cons, a, inr_dec]
    by_cases e : p.1 = k
    · rw [decide_eq_true e]
      refine ⟨fun d h => ?_, fun h => (by cases h)⟩
      cases h
      exact ⟨u.2, rfl, b⟩
    · rw [decide_eq_false e]
      exact ih
theorem kv_any {k : Str} : ∀ {vs : List (Key × V)} {kvs : List (Str × PyData)}, KvOk K F vs kvs → (vs.any fun kv => decide (kv.1 = (Sum.inr k : Key))) = (kvs.any fun p => decide (p.1 = k))
  | [], [], _ => rfl
  | [], _ :: _, h => by cases h.ks
  | _ :: _, [], h => by cases h.ks
  | u :: vs, p :: kvs, h => by
    obtain ⟨a, b, c⟩ := kv_cons h
    rw [List.any_cons, List.any_cons, a, inr_dec, kv_any c]
theorem kv_map {k : Str} {v : V} {d : PyData} (hd : Dp K F v d) : ∀ {vs : List (Key × V)} {kvs : List (Str × PyData)}, KvOk K F vs kvs → KvOk K F (vs.map fun kv => if kv.1 = (Sum.inr k : Key) then (kv.1, v) else kv) (kvs.map fun p => if p.1 = k then (p.1, d) else p)
  | [], [], h => h
  | [], _ :: _, h => by cases h.ks
  | _ :: _, [], h => by cases h.ks
  | u :: vs, p :: kvs, h => by
    obtain ⟨a, b, c⟩ := kv_cons h
    rw [List.map_cons, List.map_cons]
    by_cases e : p.1 = k
    · rw [if_pos e, if_pos (by rw [a, e])]
      exact kv_mk a hd (kv_map hd c)
    · rw [if_neg e, if_neg (fun z => e (Sum.inr.inj (a.symm.trans z)))]
      exact kv_mk a b (kv_map hd c)
theorem kv_app {v : V} {d : PyData} {k : Str} (hd : Dp K F v d) : ∀ {vs : List (Key × V)} {kvs : List (Str × PyData)}, KvOk K F vs kvs → KvOk K F (vs ++ [(Sum.inr k, v)]) (kvs ++ [(k, d)])
  | [], [], _ => kv_mk rfl hd kv_nil
  | [], _ :: _, h => by cases h.ks
  | _ :: _, [], h => by cases h.ks
  | u :: vs, p :: kvs, h => by
    obtain ⟨a, b, c⟩ := kv_cons h
    exact kv_mk a b (kv_app hd c)
theorem kv_put {k : Str} {v : V} {d : PyData} {vs : List (Key × V)} {kvs : List (Str × PyData)} (h : KvOk K F vs kvs) (hd : Dp K F v d) : KvOk K F (putK vs (Sum.inr k : Key) v) (putD kvs k d) := by
  unfold putK putD
  rw [kv_any h]
  by_cases e : (kvs.any fun p => decide (p.1 = k)) = true
  · rw [if_pos e, if_pos e]; exact kv_map hd h
  · rw [if_neg e, if_neg e]; exact kv_app hd h
end
/-- the dict of a slot -/
def Sl.kv : Sl → Option (List (Str × PyData))
  | .od kvs => some kvs
  | .fk kvs => some kvs
  | _ => none
section
variable {g : Gd} {G G' : List Sl} {te ta tb ty tv : TE} {tw : TS} {d x y : PyData} {ds : List PyData} {kvs : List (Str × PyData)} {i j : Nat} {D : Ends}
theorem dict_at {σ : L2.St} {F H : Hp} (hh : Holds g G σ F H) (h : (G[i]?).bind Sl.kv = some kvs) : ∃ p vs, σ[i]? = some (some (.ref p)) ∧ Rd H p (.dK vs) ∧ KvOk g.K F vs kvs := by
  cases e : G[i]? with
  | none => rw [e] at h; cases h
  | some s =>
    rw [e] at h
    obtain ⟨o, eo, ok⟩ := hh.at_ e
    cases s <;> first | cases h | skip
    · obtain ⟨p, vs, rfl, _, _, hH, hk⟩ := ok
      exact ⟨p, vs, eo, .inl hH, hk⟩
    · obtain ⟨p, vs, rfl, hr, hk⟩ := ok
      exact ⟨p, vs, eo, hh.st.i.ex.rd hr (fun _ z => by cases z), hk⟩
theorem rd_h {F H F' H' : Hp} (s : Stp F H F' H') {p : Addr} {vs : List (Key × V)} (h : Rd H p (.dK vs)) : Rd H' p (.dK vs) := s.h.rd h fun _ z => by cases z
/-- d[k] -/
theorem e_dget {k : Str} (h : (G[i]?).bind Sl.kv = some kvs) (hk : E g ty G (.str k)) (e : getK kvs k = some d) : E g (tDGet (tVar i) ty) G d := fun σ F H hh Q q => by
  obtain ⟨p, vs, ev, hr, hv⟩ := dict_at hh h
  refine ⟨.ref p, ev, hk σ F H hh _ fun u F1 H1 s1 d1 => ?_⟩
  cases d1
  obtain ⟨v, e1, e2⟩ := (kv_get hv).1 d e
  exact ⟨p, v, rfl, .inl ⟨vs, .inr k, rd_h s1 hr, rfl, e1.symm⟩, q v F1 H1 s1 (s1.f.dp d v e2)⟩
/-- d[k] = v -/
theorem s_dput {k : Str} (h : G[i]? = some (.od kvs)) (hk : E g ty G (.str k)) (hv : E g tv G d) (hz : kvs.length < 100000) (kk : N g D.nx (G.set i (.od (putD kvs k d)))) : S g (sDPut (tVar i) ty tv) D G := fun σ F H hh => hv σ F H hh _ fun v F1 H1 s1 d1 => by
  obtain ⟨o, e, p, vs, ev, h0, hF, hH, hd⟩ := hh.at_ h
  subst ev
  refine ⟨.ref p, e, hk σ F1 H1 (hh.mono s1) _ fun u F2 H2 s2 d2 => ?_⟩
  cases d2
  have s := s1.trans s2
  have hH1 := s.h.dk hH
  have hF1 := s.n p _ hH hF
  refine ⟨p, upd H2 p (.dK (putK vs (Sum.inr k : Key) v)), rfl, .inl ⟨vs, .inr k, hH1, rfl, Nat.lt_of_lt_of_le (by rw [kv_len hd]; exact hz) (by decide), rfl⟩, ?_⟩
  have hi : i < σ.length := (List.getElem?_eq_some_iff.mp e).1
  have hs : σ.set i (some (.ref p)) = σ := by
    apply List.ext_getElem?
    intro j
    by_cases hj : i = j
    · subst hj; rw [List.getElem?_set_self hi, e]
    · rw [List.getElem?_set_ne hj]
  have base := hh.mono s
  have h1 : Holds g (G.set i .un) σ F2 H2 := base.weak (by rw [List.length_set]) fun j s ej => by
    by_cases hj : i = j
    · subst hj; rw [List.getElem?_set_self (by rw [← hh.len]; exact hi)] at ej; cases ej; exact .inl rfl
    · rw [List.getElem?_set_ne hj] at ej; exact .inr ej
  have other : ∀ (j : Nat) (t : Sl), j ≠ i → G[j]? = some t → t.mine = true → σ[j]? ≠ some (some (.ref p)) := fun j t hj ej m z => hj (hh.apart j i t (.od kvs) p ej h m rfl z e)
  have h2 : Holds g (G.set i .un) σ F2 (upd H2 p (.dK (putK vs (Sum.inr k : Key) v))) := h1.mut h0 hF1 hH1 (fun _ z => by cases z) fun j t ej m => by
    by_cases hj : i = j
    · subst hj; rw [List.getElem?_set_self (by rw [← hh.len]; exact hi)] at ej; cases ej; cases m
    · rw [List.getElem?_set_ne hj] at ej; exact other j t (Ne.symm hj) ej m
  have h3 := h2.set (i := i) (v := .ref p) (s := .od (putD kvs k d)) ⟨p, _, rfl, h0, hF1, upd_same, kv_put (hd.mono s.f) (s2.f.dp d v d1)⟩ fun _ j t hj ej m => by
    rw [List.getElem?_set_ne (Ne.symm hj)] at ej; exact other j t hj ej m
  rw [List.set_set, hs] at h3
  exact kk σ F2 _ h3
/-! ### list(d), sorted(d) -/
/-! sorted: tuples, texts, a dict's keys -/
/-! ### isinstance, a range with a step -/
theorem e_isiT (h : B g te G (.tuple ds)) : E g (tCB (rIsi g.K) (tCons te (tCons (tC (.ty "tuple")) tNil))) G (.bool true) := fun σ F H hh Q q => h σ F H hh _ fun v F1 H1 s1 d1 => by
  obtain ⟨a, vs, rfl, h1, h2⟩ := dp_tq d1
  refine ⟨.ref a, .ty "tuple", .type "tuple", .type "tuple", true, rfl, .ty "tuple", ?_, by unfold PySem.W.kitOne; rw [if_pos (by decide +kernel)], q _ F1 H1 s1 (.bl true)⟩
  rcases h1 with (h1 | ⟨o, h1⟩) | ⟨o, its, n, e1, e2, _⟩
  · exact .base (.tup h1)
  · exact .fTuple h1
  · exact .kTuple e1 e2
theorem e_isiL (h : B g te G (.list ds)) : E g (tCB (rIsi g.K) (tCons te (tCons (tC (.ty "list")) tNil))) G (.bool true) := fun σ F H hh Q q => h σ F H hh _ fun v F1 H1 s1 d1 => by
  obtain ⟨a, vs, rfl, h1, h2⟩ := dp_sq d1
  refine ⟨.ref a, .ty "list", .type "list", .type "list", true, rfl, .ty "list", ?_, by unfold PySem.W.kitOne; rw [if_pos (by decide +kernel)], q _ F1 H1 s1 (.bl true)⟩
  rcases h1 with (h1 | ⟨o, h1⟩) | ⟨o, its, n, e1, e2, _⟩
  · exact .base (.lst h1)
  · exact .base (.frz h1)
  · exact .kList e1 e2
end
/-! == and != -/
def rEqU (K : PySem.W.Frag) : R2 := fun x y H Q => rEq x y H Q ∨ rEqD K x y H Q
def rNeU (K : PySem.W.Frag) : R2 := fun x y H Q => rNe x y H Q ∨ rNeD K x y H Q
theorem uEq {X : Cx} (hu : X.A.units + 64 < cLine) : OpR X (compareOp .Eq) (rEqU X.K) := op_eq.or (op_eqD hu)
theorem uNe {X : Cx} (hu : X.A.units + 64 < cLine) : OpR X (compareOp .NotEq) (rNeU X.K) := op_ne.or (op_neD hu)
section
variable {g : Gd} {x y : PyData}
theorem eqd (hx : SeqAt.shaped x = true) (hy : SeqAt.shaped y = true) : RB g (rEqU g.K) x y (.bool (PyData.eqv x y)) := fun u v H hu hv Q q => .inr ⟨x, y, hu, hv, hx, hy, q _ (.bl _)⟩
theorem ned (hx : SeqAt.shaped x = true) (hy : SeqAt.shaped y = true) : RB g (rNeU g.K) x y (.bool (!PyData.eqv x y)) := fun u v H hu hv Q q => .inr ⟨x, y, hu, hv, hx, hy, q _ (.bl _)⟩
theorem dec_inj {α β : Type} [DecidableEq α] [DecidableEq β] (f : α → β) (hf : ∀ a b, f a = f b → a = b) (a b : α) : decide (f a = f b) = decide (a = b) := by
  by_cases h : a = b
  · rw [decide_eq_true h, decide_eq_true (by rw [h])]
  · rw [decide_eq_false h, decide_eq_false fun z => h (hf a b z)]
theorem eq_i {a b : Int} : RB g (rEqU g.K) (.int a) (.int b) (.bool (decide (a = b))) := fun u v H hu hv Q q => by
  cases hu; cases hv
  refine .inl ⟨rfl, ?_⟩
  rw [dec_inj V.int fun a b z => V.int.inj z]; exact q _ (.bl _)
theorem ne_i {a b : Int} : RB g (rNeU g.K) (.int a) (.int b) (.bool (!decide (a = b))) := fun u v H hu hv Q q => by
  cases hu; cases hv
  refine .inl ⟨rfl, ?_⟩
  rw [dec_inj V.int fun a b z => V.int.inj z]; exact q _ (.bl _)
theorem eq_s {a b : Str} : RB g (rEqU g.K) (.str a) (.str b) (.bool (decide (a = b))) := fun u v H hu hv Q q => by
  cases hu; cases hv
  refine .inl ⟨rfl, ?_⟩
  rw [dec_inj V.str fun a b z => V.str.inj z]; exact q _ (.bl _)
theorem ne_s {a b : Str} : RB g (rNeU g.K) (.str a) (.str b) (.bool (!decide (a = b))) := fun u v H hu hv Q q => by
  cases hu; cases hv
  refine .inl ⟨rfl, ?_⟩
  rw [dec_inj V.str fun a b z => V.str.inj z]; exact q _ (.bl _)
end
/-! ### defs that take dicts -/
inductive Ag where
  | d (x : PyData)
  | k (kvs : List (Str × PyData))
def AgOk (K : PySem.W.Frag) (F : Hp) (v : V) : Ag → Prop
  | .d x => Dp K F v x
  | .k kvs => ∃ p vs, v = .ref p ∧ Rd F p (.dK vs) ∧ KvOk K F vs kvs
def Ag.sl : Ag → Sl
  | .d x => .fz x
  | .k kvs => .fk kvs
inductive AgAll (K : PySem.W.Frag) (F : Hp) : List V → List Ag → Prop
  | nil : AgAll K F [] []
  | cons {v : V} {a : Ag} {vs : List V} {as : List Ag} (h : AgOk K F v a) (t : AgAll K F vs as) : AgAll K F (v :: vs) (a :: as)
theorem AgOk.mono {K : PySem.W.Frag} {F H : Hp} {v : V} (e : Ex F H) : ∀ {a : Ag}, AgOk K F v a → AgOk K H v a
  | .d x, h => e.dp x v h
  | .k kvs, ⟨p, vs, ev, hr, hk⟩ => ⟨p, vs, ev, e.rd hr (fun _ z => by cases z), hk.mono e⟩
theorem AgAll.mono {K : PySem.W.Frag} {F H : Hp} (e : Ex F H) : ∀ {vs : List V} {as : List Ag}, AgAll K F vs as → AgAll K H vs as
  | _, _, .nil => .nil
  | _, _, .cons h t => .cons (h.mono e) (AgAll.mono e t)
theorem AgAll.len {K : PySem.W.Frag} {F : Hp} : ∀ {vs : List V} {as : List Ag}, AgAll K F vs as → vs.length = as.length
  | _, _, .nil => rfl
  | _, _, .cons _ t => by rw [List.length_cons, List.length_cons, AgAll.len t]
theorem AgAll.get {K : PySem.W.Frag} {F : Hp} : ∀ {vs : List V} {as : List Ag} {i : Nat} {a : Ag}, AgAll K F vs as → as[i]? = some a → ∃ v, vs[i]? = some v ∧ AgOk K F v a
  | _, _, _, _, .nil, e => by simp at e
  | _, _, 0, _, .cons h _, e => by simp at e; subst e; exact ⟨_, rfl, h⟩
  | _, _, i + 1, a, .cons _ t, e => by
    obtain ⟨v, h1, h2⟩ := AgAll.get (i := i) (a := a) t (by simpa using e)
    exact ⟨v, by simpa using h1, h2⟩
def spK (K : PySem.W.Frag) (Tb : List Addr) (R : List Ag → PyData → Prop) : Sp := fun vs H Q _ => ∃ F as d, Sub F H ∧ (∀ P ∈ Tb, GxR.TabG H P) ∧ AgAll K F vs as ∧ R as d ∧ ∀ v F' H', Stp F H F' H' → Dp K F' v d → Q v H'
def startK (n : Nat) (as : List Ag) : List Sl := as.map Ag.sl ++ List.replicate (n - as.length) .un
theorem holds_startK {K : PySem.W.Frag} {Tb : List Addr} {F H : Hp} {vs : List V} {as : List Ag} {Nn : List Str} (sb : Sub F H) (ht : ∀ P ∈ Tb, GxR.TabG H P) (hd : AgAll K F vs as) : Holds ⟨K, Tb, F, H, F⟩ (startK Nn.length as) (L2.start Nn vs) F H := by
  have hl := hd.len
  refine ⟨by unfold L2.start startK; rw [List.length_append, List.length_append, List.length_map, List.length_map, List.length_replicate, List.length_replicate, hl], Stp.refl sb, fun j s o e1 e2 => ?_, fun j k s t p e1 _ m1 _ _ _ => ?_, ht, Ex.refl F⟩
  · unfold startK at e1
    unfold L2.start at e2
    by_cases hj : j < as.length
    · rw [List.getElem?_append_left (by rw [List.length_map]; exact hj), List.getElem?_map] at e1
      rw [List.getElem?_append_left (by rw [List.length_map, hl]; exact hj), List.getElem?_map] at e2
      cases h1 : as[j]? with
      | none => rw [h1] at e1; cases e1
      | some d =>
        rw [h1] at e1; cases e1
        obtain ⟨v, h2, h3⟩ := hd.get h1
        rw [h2] at e2; cases e2
        cases d with
        | d x => exact ⟨v, rfl, h3⟩
        | k kvs => obtain ⟨p, vs, rfl, hr, hk⟩ := h3; exact ⟨p, vs, rfl, hr, hk⟩
    · rw [List.getElem?_append_right (by rw [List.length_map]; omega), List.getElem?_replicate] at e1
      split at e1
      · cases e1; trivial
      · cases e1
  · have no : ∀ (s : Sl), (startK Nn.length as)[j]? = some s → s.mine = false := fun s e => by
      unfold startK at e
      rcases List.mem_append.mp (List.mem_of_getElem? e) with h | h
      · obtain ⟨d, _, rfl⟩ := List.mem_map.mp h; cases d <;> rfl
      · rw [(List.mem_replicate.mp h).2]; rfl
    rw [no s e1] at m1; cases m1
section
variable {g : Gd} {G : List Sl} {te : TE} {ta : TA} {d x : PyData} {as : List Ag} {kvs : List (Str × PyData)} {i : Nat}
def AX (g : Gd) (ta : TA) (G : List Sl) (as : List Ag) : Prop := ∀ σ F H, Holds g G σ F H → ∀ Q : List V → Hp → Prop, (∀ vs F' H', Stp F H F' H' → AgAll g.K H' vs as → Q vs H') → ta σ H Q
theorem ax_nil : AX g tNil G [] := fun σ F H hh Q q => q [] F H (Stp.refl hh.st.i) .nil
theorem ax_d {tr : TA} (h : B g te G x) (hr : AX g tr G as) : AX g (tCons te tr) G (.d x :: as) := fun σ F H hh Q q =>
  h σ F H hh _ fun v F1 H1 s1 d1 => hr σ F1 H1 (hh.mono s1) _ fun vs F2 H2 s2 d2 => q (v :: vs) F2 H2 (s1.trans s2) (.cons (show AgOk g.K H2 v (.d x) from s2.h.dp x v d1) d2)
theorem ax_k {tr : TA} (h : (G[i]?).bind Sl.kv = some kvs) (hr : AX g tr G as) : AX g (tCons (tVar i) tr) G (.k kvs :: as) := fun σ F H hh Q q => by
  obtain ⟨p, vs, ev, hd, hv⟩ := dict_at hh h
  exact ⟨.ref p, ev, hr σ F H hh _ fun ws F2 H2 s2 d2 => q (.ref p :: ws) F2 H2 s2 (.cons (show AgOk g.K H2 (.ref p) (.k kvs) from ⟨p, vs, rfl, rd_h s2 hd, (hv.mono hh.st.i.ex).mono s2.h⟩) d2)⟩
theorem x_call {R : List Ag → PyData → Prop} {Ek : XK} (h : AX g ta G as) (r : R as d) (hs : scalD d = true) : E g (tCall (spK g.K g.T R) [] Ek ta) G d := fun σ F H hh Q q => h σ F H hh _ fun vs F1 H1 s1 d1 => by
  rw [List.append_nil]
  exact ⟨cut H1, as, d, sub_cut H1, (hh.mono s1).tab, d1.mono (ex_cut H1), r, fun v F2 H2 s2 d2 => q v F1 H2 (s1.trans (Stp.back s1.i s2)) (dp_scal hs d2)⟩
end
section
variable {P : Program} {w : World} {K : PySem.W.Frag} {mg : Str → Option Value} {base : Heap} {x qual : Str} {st : Stmt} {f : Addr} {fd : FuncData} {Nn ps : List Str} {k : Nat} {Tb : List Addr}
theorem df_K (F : Fun K x qual st f fd) (Sc : FnScope Nn ps (defScope st)) (hm : mg x = some (.ref f)) (hb : Binds K fd ps []) {R : List Ag → PyData → Prop} (hlen : ∀ as d, R as d → as.length = ps.length)
    (body : ∀ (cdv : Value) (A : Around) (outer : List Env) (s : Shared) (H : Hp) (E : XK), Room k (A.deeper (envOfC qual (defScope st) s.heap.objs.size f cdv)) →
      ∃ t, PSs (cxOf CX0 P w K mg base Nn qual (defScope st) f cdv A outer s H E).nox (defBody st) t ∧ ∀ (as : List Ag) (d : PyData) (F0 H0 : Hp) (Q : VK), R as d → Rt ⟨K, Tb, F0, H0, F0⟩ Q d → S ⟨K, Tb, F0, H0, F0⟩ t { nx := fun _ H' => Q .non H', rt := Q } (startK Nn.length as)) :
    Df P w K mg base (k + 1) x ps (spK K Tb R) := by
  refine ⟨f, fd, F.ok Sc (fun vs H Q E h => ?_) (fun cdv A outer s H vs Q E hr h => ?_), hm, F.kp, hb⟩
  · obtain ⟨F, as, d, _, _, hd, r, _⟩ := h
    exact hd.len.trans (hlen as d r)
  · obtain ⟨F1, as, d, sb, ht, hd, r, q⟩ := h
    obtain ⟨t, h1, h2⟩ := body cdv A outer s H E hr
    exact ⟨t, h1, h2 as d F1 H Q r q _ F1 H (holds_startK sb ht hd)⟩
end
end DW
/-! the operators with the written part named (for comprehensions) -/
namespace DW
open PySem PySem.Spec PyProof.Rows L2
theorem uAddK {X : Cx} (K : PySem.W.Frag) (h : X.K = K := by rfl) : OpR X (binaryOp .Add) (rAddU K) := h ▸ uAdd
theorem uInK {X : Cx} (K : PySem.W.Frag) (h : X.K = K := by rfl) : OpR X (compareOp .In) (rInU K) := h ▸ uIn
theorem uNiK {X : Cx} (K : PySem.W.Frag) (h : X.K = K := by rfl) : OpR X (compareOp .NotIn) (rNiU K) := h ▸ uNi
theorem uEqK {X : Cx} (K : PySem.W.Frag) (hu : X.A.units + 64 < cLine) (h : X.K = K := by rfl) : OpR X (compareOp .Eq) (rEqU K) := h ▸ uEq hu
theorem uNeK {X : Cx} (K : PySem.W.Frag) (hu : X.A.units + 64 < cLine) (h : X.K = K := by rfl) : OpR X (compareOp .NotEq) (rNeU K) := h ▸ uNe hu
theorem ix_seqK {X : Cx} (K : PySem.W.Frag) (h : X.K = K := by rfl) : IxR X (rIx K) := h ▸ ix_seq
theorem uLenK {X : Cx} (K : PySem.W.Frag) (h : X.K = K := by rfl) : CallR X (.builtin "len") (rLenU K) := h ▸ uLen
theorem uTupK {X : Cx} (K : PySem.W.Frag) (h : X.K = K := by rfl) : CallR X (.type "tuple") (rTupU K) := h ▸ uTup
theorem uSlK {X : Cx} (K : PySem.W.Frag) (h : X.K = K := by rfl) : SlR X (rSlU K) := h ▸ uSl
def tTru (K : PySem.W.Frag) (te : TE) : TT := fun σ H Q => te σ H fun x H' => ∃ k, TruV K x H' k ∧ Q k H'
theorem pt_truthK {X : Cx} {a : Expr} {ta : TE} (K : PySem.W.Frag) (ha : PE X a ta) (hw : ∀ whole : Sem Value, PySem.isTrue a X.env whole = do let v ← whole; standAt a.pos; holding [v] (truthy v)) (h : X.K = K := by rfl) : PT X a (tTru K ta) := h ▸ pt_truth ha hw
theorem t_tru {g : Gd} {G : List Sl} {te : TE} {d : PyData} {b : Bool} (h : B g te G d) (e : truD d = some b) : T g (tTru g.K te) G b := t_truth h e
theorem pg_tupK {X : Cx} {pos : Pos} {es : List Expr} {k n : Nat} {t : TGs} (K : PySem.W.Frag) (hc : X.calm = true) (ht : PGs X es t) (h1 : (assignEach es X.env).length = n := by rfl) (h2 : List.findIdx? (fun x => x.fst) (assignEach es X.env) = none := by rfl) (h : X.K = K := by rfl) : PG X (.Tuple es k pos) (gTup K n t) := h ▸ pg_tup hc ht h1 h2
end DW
namespace DW
open PySem PySem.Spec PyProof.Rows L2
section
variable {P : Program} {w : World} {K : PySem.W.Frag} {mg : Str → Option Value} {base : Heap} {x qual : Str} {st : Stmt} {f : Addr} {fd : FuncData} {Nn ps : List Str} {k : Nat} {Tb : List Addr}
/-- the law itself -/
theorem fn_D (F : Fun K x qual st f fd) (Sc : FnScope Nn ps (defScope st)) {R : List PyData → PyData → Prop} (hlen : ∀ ds d, R ds d → ds.length = ps.length)
    (body : ∀ (cdv : Value) (A : Around) (outer : List Env) (s : Shared) (H : Hp) (E : XK), Room k (A.deeper (envOfC qual (defScope st) s.heap.objs.size f cdv)) →
      ∃ t, PSs (cxOf CX0 P w K mg base Nn qual (defScope st) f cdv A outer s H E).nox (defBody st) t ∧ ∀ (ds : List PyData) (d : PyData) (F0 H0 : Hp) (Q : VK), R ds d → Rt ⟨K, Tb, F0, H0, F0⟩ Q d → S ⟨K, Tb, F0, H0, F0⟩ t { nx := fun _ H' => Q .non H', rt := Q } (startG Nn.length ds)) :
    FnOk P w K mg base CX0 (k + 1) f fd ps (spD K Tb R) := by
  refine F.ok Sc (fun vs H Q E h => ?_) (fun cdv A outer s H vs Q E hr h => ?_)
  · obtain ⟨F, ds, d, _, _, hd, r, _⟩ := h
    exact (dps_len hd).trans (hlen ds d r)
  · obtain ⟨F1, ds, d, sb, ht, hd, r, q⟩ := h
    obtain ⟨t, h1, h2⟩ := body cdv A outer s H E hr
    exact ⟨t, h1, h2 ds d F1 H Q r q _ F1 H (holds_start sb ht hd)⟩
end
theorem dps_ints {K : PySem.W.Frag} {F : Hp} : ∀ (xs : List Int), DpAll K F (xs.map V.int) (xs.map PyData.int)
  | [] => .nil
  | x :: xs => .cons (.int x) (dps_ints xs)
/-- the script as data -/
theorem dp_script {K : PySem.W.Frag} {H : Hp} {a : Addr} {xs : List Int} (h : SqL K H a (xs.map V.int)) : DpAll K (cut H) [.ref a] [.list (xs.map .int)] := .cons (.lst ((ex_cut H).l h) (dps_ints xs)) .nil
end DW
/-! answers known by a property only; None; pop; the end of a recursion -/
namespace DW
open PySem PySem.Spec PyProof.Rows L2
/-- te gives some d with P d -/
def EP (g : Gd) (te : TE) (G : List Sl) (P : PyData → Prop) : Prop := ∀ σ F H, Holds g G σ F H → ∀ Q : VK, (∀ v F' H' d, Stp F H F' H' → P d → Dp g.K F' v d → Q v H') → te σ H Q
def AP (g : Gd) (ta : TA) (G : List Sl) (P : List PyData → Prop) : Prop := ∀ σ F H, Holds g G σ F H → ∀ Q : List V → Hp → Prop, (∀ vs F' H' ds, Stp F H F' H' → P ds → DpAll g.K F' vs ds → Q vs H') → ta σ H Q
section
variable {g : Gd} {G : List Sl} {te : TE} {ta tr : TA} {tw : TS} {d x y : PyData} {ds : List PyData} {i j : Nat} {D : Ends} {P P1 : PyData → Prop} {PP : List PyData → Prop}
theorem E.p (h : E g te G d) (p : P d) : EP g te G P := fun σ F H hh Q q => h σ F H hh Q fun v F' H' s hd => q v F' H' d s p hd
theorem EP.mono (h : EP g te G P1) (m : ∀ d, P1 d → P d) : EP g te G P := fun σ F H hh Q q => h σ F H hh Q fun v F' H' d s p hd => q v F' H' d s (m d p) hd
theorem A.p (h : A g ta G ds) (p : PP ds) : AP g ta G PP := fun σ F H hh Q q => h σ F H hh Q fun vs F' H' s hd => q vs F' H' ds s p hd
/-- our list at slot i changes -/
theorem own_set {σ : L2.St} {F H F1 H1 : Hp} {p : Addr} {vs ws : List V} {es : List PyData} (hh : Holds g G σ F H) (h : G[i]? = some (.ow ds)) (e : σ[i]? = some (some (.ref p))) (h0 : g.H0 p = none) (hF : F p = none) (hH : H p = some (.lst vs)) (s1 : Stp F H F1 H1) (hw : DpAll g.K F1 ws es) :
    Holds g (G.set i (.ow es)) σ F1 (upd H1 p (.lst ws)) := by
  have hH1 := s1.h.lst hH
  have hF1 := s1.n p _ hH hF
  have hi : i < σ.length := (List.getElem?_eq_some_iff.mp e).1
  have hs : σ.set i (some (.ref p)) = σ := by
    apply List.ext_getElem?
    intro j
    by_cases hj : i = j
    · subst hj; rw [List.getElem?_set_self hi, e]
    · rw [List.getElem?_set_ne hj]
  have base := hh.mono s1
  have h1 : Holds g (G.set i .un) σ F1 H1 := base.weak (by rw [List.length_set]) fun j s ej => by
    by_cases hj : i = j
    · subst hj; rw [List.getElem?_set_self (by rw [← hh.len]; exact hi)] at ej; cases ej; exact .inl rfl
    · rw [List.getElem?_set_ne hj] at ej; exact .inr ej
  have other : ∀ (j : Nat) (t : Sl), j ≠ i → G[j]? = some t → t.mine = true → σ[j]? ≠ some (some (.ref p)) := fun j t hj ej m z => hj (hh.apart j i t (.ow ds) p ej h m rfl z e)
  have h2 : Holds g (G.set i .un) σ F1 (upd H1 p (.lst ws)) := h1.mut h0 hF1 hH1 (fun _ z => by cases z) fun j t ej m => by
    by_cases hj : i = j
    · subst hj; rw [List.getElem?_set_self (by rw [← hh.len]; exact hi)] at ej; cases ej; cases m
    · rw [List.getElem?_set_ne hj] at ej; exact other j t (Ne.symm hj) ej m
  have h3 := h2.setO (i := i) (ds := es) h0 hF1 upd_same hw fun j hj ⟨t, ej, m⟩ => by
    rw [List.getElem?_set_ne (Ne.symm hj)] at ej; exact other j t hj ej m
  rw [List.set_set, hs] at h3
  exact h3
theorem dps_last {K : PySem.W.Frag} {F : Hp} : ∀ {ds : List PyData} {vs : List V}, DpAll K F vs (ds ++ [d]) → ∃ v, vs[vs.length - 1]? = some v ∧ Dp K F v d ∧ DpAll K F vs.dropLast ds
  | [], _, .cons a t => by cases t; exact ⟨_, rfl, a, .nil⟩
  | x :: ds, _, .cons a t => by
    obtain ⟨v, h1, h2, h3⟩ := dps_last t
    rename_i w vs
    have hl : vs ≠ [] := fun z => by subst z; simp at h1
    refine ⟨v, ?_, h2, ?_⟩
    · cases vs with
      | nil => exact absurd rfl hl
      | cons u us => simpa using h1
    · cases vs with
      | nil => exact absurd rfl hl
      | cons u us => rw [List.dropLast_cons_cons]; exact .cons a h3
/-- x = xs.pop() -/
theorem s_pop (h : G[i]? = some (.ow (ds ++ [d]))) (hij : j ≠ i) (k : N g D.nx ((G.set i (.ow ds)).set j (.fz d))) : S g (tAsg (tBM0 g.K "list" rPop (tVar i)) (gName j)) D G := fun σ F H hh => by
  obtain ⟨o, e, p, vs, ev, h0, hF, hH, hd⟩ := hh.at_ h
  subst ev
  obtain ⟨v, h1, h2, h3⟩ := dps_last hd
  refine ⟨.ref p, e, .inl ⟨rfl, vs, .inl (.inl hH)⟩, p, vs, v, rfl, rfl, hH, h1, ?_⟩
  have z := own_set hh h e h0 hF hH (Stp.refl hh.st.i) h3
  exact k _ F _ (z.setF h2)
theorem q_pop (h : G[i]? = some (.ow (ds ++ [d]))) (hij : j ≠ i) (k : S g tw D ((G.set i (.ow ds)).set j (.fz d))) : S g (tSeq (tAsg (tBM0 g.K "list" rPop (tVar i)) (gName j)) tw) D G := s_pop (D := { D with nx := tw D }) h hij k
/-- x is None -/
def isND : PyData → Bool
  | .none => true
  | _ => false
def rIsNn : R2 := fun x y H Q => y = .non ∧ Q (.bl (decide (x = .non))) H
theorem is_n : RB g rIsNn x .none (.bool (isND x)) := fun u v H hu hv Q q => by
  cases hv
  refine ⟨rfl, ?_⟩
  have e : decide (u = V.non) = isND x := by
    cases hu with
    | non => exact decide_eq_true rfl
    | bl b => exact decide_eq_false fun z => by cases z
    | int b => exact decide_eq_false fun z => by cases z
    | str b => exact decide_eq_false fun z => by cases z
    | lst _ _ => exact decide_eq_false fun z => by cases z
    | tup _ _ => exact decide_eq_false fun z => by cases z
  rw [e]; exact q _ (.bl _)
/-- == of a text and None -/
theorem eq_ns {a : Str} : RB g (rEqU g.K) .none (.str a) (.bool false) := fun u v H hu hv Q q => by
  cases hu; cases hv
  exact .inl ⟨rfl, q _ (.bl false)⟩
end
/-- tuple(xs), xs ours -/
theorem e_tupO {g : Gd} {G : List Sl} {ds : List PyData} {j : Nat} (h : G[j]? = some (.ow ds)) : E g (tCB (rTupU g.K) (tCons (tVar j) tNil)) G (.tuple ds) := fun σ F H hh Q q => by
  obtain ⟨o, e, p, vs, ev, h0, hF, hH, hd⟩ := hh.at_ h
  subst ev
  exact ⟨.ref p, e, p, vs, rfl, .inl ⟨.inl (.inl hH), fun l hl => by
    have st := Stp.new (o := .tup vs) hh.st.i hl fun _ z => by cases z
    exact q (.ref l) _ _ st (.tup (.inl (.inl upd_same)) (st.f.dps ds vs hd))⟩⟩
theorem uIsN {X : Cx} : OpR X (compareOp .Is) rIsNn := op_isN
/-! a def whose answer is known by a property -/
section
variable {P : Program} {w : World} {K : PySem.W.Frag} {mg : Str → Option Value} {base : Heap} {x qual : Str} {st : Stmt} {f : Addr} {fd : FuncData} {Nn ps : List Str} {k : Nat} {Tb : List Addr}
/-- nothing promised: a recursion's end -/
theorem df_no (F : Fun K x qual st f fd) (hm : mg x = some (.ref f)) (hb : Binds K fd ps []) {R : List PyData → PyData → Prop} (no : ∀ ds d, ¬ R ds d) : Df P w K mg base k x ps (spD K Tb R) :=
  ⟨f, fd, ⟨fun vs H Q E h => by obtain ⟨_, _, _, _, _, _, r, _⟩ := h; exact absurd r (no _ _), fun A outer s H args us vs Q E _ _ _ _ h => by obtain ⟨_, _, _, _, _, _, r, _⟩ := h; exact absurd r (no _ _)⟩, hm, F.kp, hb⟩
end
end DW
/-! a held exception with fields of its own: isinstance of a class above its own -/
namespace DW
open PySem PySem.Spec PyProof.Rows L2
end DW
/-! ### exceptions by data -/
namespace DW
open PySem PySem.Spec PyProof.Rows L2
/-- what a call comes to -/
inductive Out where
  | val (d : PyData)
  | exc (C : Addr) (fs : List (Str × PyData))
/-- the fields of an exception -/
structure FsOk (K : PySem.W.Frag) (F : Hp) (ws : List (Str × V)) (fs : List (Str × PyData)) : Prop where
  ns : ws.map (·.1) = fs.map (·.1)
  ds : DpAll K F (ws.map (·.2)) (fs.map (·.2))
theorem FsOk.mono {K : PySem.W.Frag} {F H : Hp} {ws : List (Str × V)} {fs : List (Str × PyData)} (e : Ex F H) (h : FsOk K F ws fs) : FsOk K H ws fs := ⟨h.ns, e.dps _ _ h.ds⟩
theorem FsOk.get {K : PySem.W.Frag} {F : Hp} {n : Str} {d : PyData} : ∀ {ws : List (Str × V)} {fs : List (Str × PyData)}, FsOk K F ws fs → fs.lookup n = some d → ∃ v, ws.lookup n = some v ∧ Dp K F v d
  | [], [], _, e => by cases e
  | [], _ :: _, h, _ => by cases h.ns
  | _ :: _, [], h, _ => by cases h.ns
  | (a, v) :: ws, (b, x) :: fs, h, e => by
    obtain ⟨h1, h2⟩ := h
    rw [List.map_cons, List.map_cons] at h1 h2
    injection h1 with e1 e2
    cases h2 with
    | cons c t =>
      have e1' : a = b := e1
      subst e1'
      rw [List.lookup_cons] at e ⊢
      cases q : n == a with
      | true => rw [q] at e; cases e; exact ⟨v, rfl, c⟩
      | false => rw [q] at e; exact FsOk.get ⟨e2, t⟩ e
def XtOk (g : Gd) (Ek : XK) (C : Addr) (fs : List (Str × PyData)) : Prop := ∀ dx ws F H, Stp g.F0 g.H0 F H → g.H0 dx = none → F dx = none → H dx = some (.xd ws) → FsOk g.K F ws fs → Ek (.ref C) (some dx) H
def OutOk (g : Gd) (Q : VK) (Ek : XK) : Out → Prop
  | .val d => Rt g Q d
  | .exc C fs => XtOk g Ek C fs
/-- a promise that tells what is raised too -/
def spX (K : PySem.W.Frag) (Tb : List Addr) (R : List PyData → Out → Prop) : Sp := fun vs H Q Ek => ∃ F ds o, Sub F H ∧ (∀ P ∈ Tb, GxR.TabG H P) ∧ DpAll K F vs ds ∧ R ds o ∧ OutOk ⟨K, Tb, F, H, F⟩ Q Ek o
/-- __init__(self, x): self.f = x -/
def spI1 (C : Addr) (f : Str) : Sp := fun vs H Q _ => ∃ (a : Addr) (v : V), vs = [.ref a, v] ∧ H a = some (exo a C none) ∧ ∀ dx, H dx = none → dx ≠ a → Q .non (upd (upd H dx (exd dx [(f, v)])) a (exo a C (some dx)))
/-- __init__(self, x, y): self.f = x; self.h = y -/
def spI2 (C : Addr) (f h : Str) : Sp := fun vs H Q _ => ∃ (a : Addr) (v u : V), vs = [.ref a, v, u] ∧ H a = some (exo a C none) ∧ ∀ dx, H dx = none → dx ≠ a → Q .non (upd (upd (upd H dx (exd dx [(f, v)])) a (exo a C (some dx))) dx (exd dx [(h, u), (f, v)]))
theorem init1_t {K : PySem.W.Frag} {C : Addr} {f n1 n2 : Str} {vs : List V} {H : Hp} {Q : VK} {Ek : XK} (hC : OexC K C) (hf : PySem.W.findIn K (.ref C) f = some none) (h : spI1 C f vs H Q Ek) : tOst K f (tVar 0) (tVar 1) { nx := fun _ H' => Q .non H', rt := Q } (L2.start [n1, n2] vs) H := by
  obtain ⟨a, v, rfl, ha, q⟩ := h
  exact ⟨v, rfl, .ref a, rfl, a, C, rfl, hC, hf, .inl ⟨ha, fun dx h1 h2 => q dx h1 h2⟩⟩
theorem init2_t {K : PySem.W.Frag} {C : Addr} {f h n1 n2 n3 : Str} {vs : List V} {H : Hp} {Q : VK} {Ek : XK} (hC : OexC K C) (hf : PySem.W.findIn K (.ref C) f = some none) (hh : PySem.W.findIn K (.ref C) h = some none) (hp : spI2 C f h vs H Q Ek) : tSeq (tOst K f (tVar 0) (tVar 1)) (tOst K h (tVar 0) (tVar 2)) { nx := fun _ H' => Q .non H', rt := Q } (L2.start [n1, n2, n3] vs) H := by
  obtain ⟨a, v, u, rfl, ha, q⟩ := hp
  refine ⟨v, rfl, .ref a, rfl, a, C, rfl, hC, hf, .inl ⟨ha, fun dx h1 h2 => ?_⟩⟩
  refine ⟨u, rfl, .ref a, rfl, a, C, rfl, hC, hh, .inr ⟨dx, [(f, v)], upd_same, ?_, Nat.le_of_ble_eq_true rfl, q dx h1 h2⟩⟩
  rw [upd_ne h2]; exact upd_same
section
variable {g : Gd} {G : List Sl} {te tf : TE} {ta : TA} {d x : PyData} {ds : List PyData} {i j : Nat} {D : Ends} {Ek : XK} {C : Addr} {f h : Str}
theorem heap1 {H : Hp} {a dx : Addr} {o1 o2 o3 o4 : HO} (ha : H a = none) (hne : dx ≠ a) : upd (del (upd (upd (upd H a o1) dx o2) a o3) a) dx o4 = upd H dx o4 := by
  funext b
  by_cases hb : b = dx
  · subst hb; rw [upd_same, upd_same]
  · rw [upd_ne hb, upd_ne hb]
    show (if b = a then none else _) = _
    by_cases hba : b = a
    · rw [if_pos hba, hba, ha]
    · rw [if_neg hba, upd_ne hba, upd_ne hb, upd_ne hba]
/-- raise C(e) -/
theorem s_raise1 (he : E g te G d) (k : XtOk g Ek C [(f, d)]) : S g (fun _ σ H => tMkO C (spI1 C f) [] (tCons te tNil) σ H fun cls dd H' => Ek cls dd H') D G := fun σ F H hh => he σ F H hh _ fun v F1 H1 s1 d1 =>
  ⟨by show 1 ≤ 1000; decide, fun a ha => ⟨a, v, rfl, upd_same, fun dx hdx hne => by
    have hd0 : H1 dx = none := by rw [upd_ne hne] at hdx; exact hdx
    refine ⟨rfl, dx, [(f, v)], upd_same, by rw [upd_ne hne]; exact upd_same, hd0, ?_⟩
    rw [heap1 ha hne]
    exact k dx [(f, v)] F1 _ (hh.st.trans (s1.trans (Stp.mine s1.i hd0))) (old_free (hh.st.trans s1) hd0) (s1.i.free hd0) upd_same ⟨rfl, .cons d1 .nil⟩⟩⟩
theorem heap2 {H : Hp} {a dx : Addr} {o1 o2 o3 o4 o5 : HO} (ha : H a = none) (hne : dx ≠ a) : upd (del (upd (upd (upd (upd H a o1) dx o2) a o3) dx o5) a) dx o4 = upd H dx o4 := by
  funext b
  by_cases hb : b = dx
  · subst hb; rw [upd_same, upd_same]
  · rw [upd_ne hb, upd_ne hb]
    show (if b = a then none else _) = _
    by_cases hba : b = a
    · rw [if_pos hba, hba, ha]
    · rw [if_neg hba, upd_ne hb, upd_ne hba, upd_ne hb, upd_ne hba]
/-- raise C(e, e') -/
theorem s_raise2 (he : E g te G d) (hf : E g tf G x) (k : XtOk g Ek C [(h, x), (f, d)]) : S g (fun _ σ H => tMkO C (spI2 C f h) [] (tCons te (tCons tf tNil)) σ H fun cls dd H' => Ek cls dd H') D G := fun σ F H hh => he σ F H hh _ fun v F0 H0 s0 d0 => hf σ F0 H0 (hh.mono s0) _ fun u F1 H1 s2 d1 =>
  ⟨by show 2 ≤ 1000; decide, fun a ha => ⟨a, v, u, rfl, upd_same, fun dx hdx hne => by
    have s1 := s0.trans s2
    have hd0 : H1 dx = none := by rw [upd_ne hne] at hdx; exact hdx
    refine ⟨rfl, dx, [(h, u), (f, v)], ?_, upd_same, hd0, ?_⟩
    · rw [upd_ne (Ne.symm hne)]; exact upd_same
    · rw [heap2 ha hne]
      exact k dx [(h, u), (f, v)] F1 _ (hh.st.trans (s1.trans (Stp.mine s1.i hd0))) (old_free (hh.st.trans s1) hd0) (s1.i.free hd0) upd_same ⟨rfl, .cons d1 (.cons (s2.f.dp d v d0) .nil)⟩⟩⟩
/-- try: y = f(..) / except C as e: suite -/
theorem s_tryX {R : List PyData → Out → Prop} {o : Out} {c : Value} {ts : Addr → Value → Option Addr → TS} {Wout : WX} (ha : A g ta G ds) (r : R ds o)
    (hv : ∀ d, o = .val d → N g D.nx (G.set j (.fz d)))
    (hx : ∀ C fs, o = .exc C fs → PySem.W.exmOne g.K (.ref C) c = some true ∧ ∀ a dx ws F1, F1 dx = some (.xd ws) → FsOk g.K F1 ws fs →
      S { g with Fl := F1 } (ts a (.ref C) (some dx)) { nx := fun σ' H' => D.nx (σ'.set i none) H', rt := D.rt, bk := fun σ' H' => D.bk (σ'.set i none) H', ct := fun σ' H' => D.ct (σ'.set i none) H' } (G.set i (.raw (.ref a)))) :
    S g (fun D σ H => tAsg (tCallS (spX g.K g.T R) (WE (wAs g.K c i ts Wout D)) ta) (gName j) D σ H) D G := fun σ F H hh => ha σ F H hh _ fun vs F1 H1 s1 d1 => by
  refine ⟨F1, ds, o, s1.i, (hh.mono s1).tab, d1, r, ?_⟩
  cases o with
  | val d => exact fun v F2 H2 s2 d2 => hv d rfl _ F2 H2 ((hh.mono (s1.trans s2)).setF d2)
  | exc C fs =>
    intro dx ws F2 H2 s2 h0 hF hH hfs
    obtain ⟨em, hs⟩ := hx C fs rfl
    refine ⟨true, em, fun _ a _ => ?_, fun z => by cases z⟩
    have e : Ex F2 (upd F2 dx (.xd ws)) := fun b u q _ => by rw [upd_ne (ne_of_none q hF)]; exact q
    have st : Stp F1 H1 (upd F2 dx (.xd ws)) H2 := by
      refine ⟨s2.f.trans e, ⟨fun b u q n => ?_, fun b ps q => ?_⟩, s2.h, s2.s, s2.t, fun b u q n => ?_⟩
      · by_cases hb : b = dx
        · subst hb; rw [upd_same] at q; cases q; exact hH
        · rw [upd_ne hb] at q; exact s2.i.ex b u q n
      · by_cases hb : b = dx
        · subst hb; rw [upd_same] at q; cases q
        · rw [upd_ne hb] at q; exact s2.i.nt b ps q
      · rw [upd_ne (ne_of_none q h0)]; exact s2.n b u q n
    have h3 := (hh.mono (s1.trans st)).set (i := i) (v := .ref a) (s := .raw (.ref a)) rfl fun z => by cases z
    exact hs a dx ws _ upd_same (hfs.mono e) _ _ H2 ⟨h3.len, h3.st, h3.sl, h3.apart, h3.tab, Ex.refl _⟩
/-- e.f in the suite -/
theorem e_fld {a dx : Addr} {ws : List (Str × V)} {fs : List (Str × PyData)} {n : Str} (hi : G[i]? = some (.raw (.ref a))) (hd : g.Fl dx = some (.xd ws)) (hf : FsOk g.K g.Fl ws fs) (hl : fs.lookup n = some d) : E g (tXf a (.ref C) (some dx) C n (tVar i)) G d := fun σ F H hh Q q => by
  obtain ⟨o, eo, ok⟩ := hh.at_ hi
  obtain rfl : o = some (.ref a) := ok
  have hF : F dx = some (.xd ws) := hh.lo dx _ hd fun _ z => by cases z
  have hH : H dx = some (.xd ws) := hh.st.i.ex dx _ hF fun _ z => by cases z
  obtain ⟨v, e1, e2⟩ := FsOk.get (hf.mono hh.lo) hl
  exact ⟨.ref a, eo, rfl, rfl, dx, ws, v, rfl, hH, e1, q v F H (Stp.refl hh.st.i) e2⟩
end
/-- a def at hand that may raise -/
structure DfX (P : Program) (w : World) (K : PySem.W.Frag) (mg : Str → Option Value) (base : Heap) (k : Nat) (x : Str) (ps : List Str) (sp : Sp) : Prop where
  ex : ∃ f fd, FnOk P w K mg base (L2.CX P w) k f fd ps sp ∧ mg x = some (.ref f) ∧ PySem.W.keepIn K (.ref f) = true ∧ Binds K fd ps []
section
variable {P : Program} {w : World} {K : PySem.W.Frag} {mg : Str → Option Value} {base : Heap} {x qual : Str} {st : Stmt} {f : Addr} {fd : FuncData} {Nn ps : List Str} {k : Nat} {Tb : List Addr}
theorem df_X (F : Fun K x qual st f fd) (Sc : FnScope Nn ps (defScope st)) (hm : mg x = some (.ref f)) (hb : Binds K fd ps []) {R : List PyData → Out → Prop} (hlen : ∀ ds o, R ds o → ds.length = ps.length)
    (body : ∀ (cdv : Value) (A : Around) (outer : List Env) (s : Shared) (H : Hp) (E : XK), Room k (A.deeper (envOfC qual (defScope st) s.heap.objs.size f cdv)) →
      ∃ t, PSs (cxOf (L2.CX P w) P w K mg base Nn qual (defScope st) f cdv A outer s H E) (defBody st) t ∧ ∀ (ds : List PyData) (o : Out) (F0 H0 : Hp) (Q : VK), R ds o → OutOk ⟨K, Tb, F0, H0, F0⟩ Q E o → S ⟨K, Tb, F0, H0, F0⟩ t { nx := fun _ H' => Q .non H', rt := Q } (startG Nn.length ds)) :
    DfX P w K mg base (k + 1) x ps (spX K Tb R) := by
  refine ⟨f, fd, F.okX Sc (fun vs H Q E h => ?_) (fun cdv A outer s H vs Q E hr h => ?_), hm, F.kp, hb⟩
  · obtain ⟨F, ds, o, _, _, hd, r, _⟩ := h
    exact (dps_len hd).trans (hlen ds o r)
  · obtain ⟨F1, ds, o, sb, ht, hd, r, q⟩ := h
    obtain ⟨t, h1, h2⟩ := body cdv A outer s H E hr
    exact ⟨t, h1, h2 ds o F1 H Q r q _ F1 H (holds_start sb ht hd)⟩
end
end DW
/-! the class of a held exception with fields of its own, at the library's level -/
namespace DW
open PySem PySem.Spec PyProof.Rows L2
end DW
/-! isinstance of a held exception with fields of its own, both answers -/
namespace DW
open PySem PySem.Spec PyProof.Rows L2
end DW
/-! list(range(a, b, c)), max and min of two ints, isinstance of ints and bools, == of bools -/
namespace DW
open PySem PySem.Spec PyProof.Rows L2
def rMax2 : List V → Hp → VK → Prop := fun xs H Q => ∃ i j, xs = [.int i, .int j] ∧ Q (.int (if j > i then j else i)) H
def rMin2 : List V → Hp → VK → Prop := fun xs H Q => ∃ i j, xs = [.int i, .int j] ∧ Q (.int (if j < i then j else i)) H
section
variable {g : Gd} {G : List Sl} {te ta tb tc : TE} {tt tu : TT} {d x y z : PyData} {ds es : List PyData} {i : Nat}
theorem max_i {a b : Int} : C1 g rMax2 [.int a, .int b] (.int (if b > a then b else a)) := fun vs H h Q q => by
  cases h with
  | cons h1 h => cases h with
    | cons h2 h => cases h; cases h1; cases h2; exact ⟨a, b, rfl, q _ (.int _)⟩
theorem min_i {a b : Int} : C1 g rMin2 [.int a, .int b] (.int (if b < a then b else a)) := fun vs H h Q q => by
  cases h with
  | cons h1 h => cases h with
    | cons h2 h => cases h; cases h1; cases h2; exact ⟨a, b, rfl, q _ (.int _)⟩
theorem isi_ib {K : PySem.W.Frag} : PySem.W.kitOne K (.type "int") (.type "bool") = some false := by
  unfold PySem.W.kitOne; rw [if_neg (by decide +kernel)]; rfl
theorem e_isiI {n : Int} (h : B g te G (.int n)) : E g (tCB (rIsi g.K) (tCons te (tCons (tC (.ty "int")) tNil))) G (.bool true) := fun σ F H hh Q q => h σ F H hh _ fun v F1 H1 s1 d1 => by
  cases d1
  exact ⟨.int n, .ty "int", .type "int", .type "int", true, rfl, .ty "int", .base (.int n), by unfold PySem.W.kitOne; rw [if_pos (by decide +kernel)], q _ F1 H1 s1 (.bl true)⟩
theorem e_isiIb {n : Int} (h : B g te G (.int n)) : E g (tCB (rIsi g.K) (tCons te (tCons (tC (.ty "bool")) tNil))) G (.bool false) := fun σ F H hh Q q => h σ F H hh _ fun v F1 H1 s1 d1 => by
  cases d1
  exact ⟨.int n, .ty "bool", .type "int", .type "bool", false, rfl, .ty "bool", .base (.int n), isi_ib, q _ F1 H1 s1 (.bl false)⟩
theorem e_isiBb {b : Bool} (h : B g te G (.bool b)) : E g (tCB (rIsi g.K) (tCons te (tCons (tC (.ty "bool")) tNil))) G (.bool true) := fun σ F H hh Q q => h σ F H hh _ fun v F1 H1 s1 d1 => by
  cases d1
  exact ⟨.bl b, .ty "bool", .type "bool", .type "bool", true, rfl, .ty "bool", .base (.bl b), by unfold PySem.W.kitOne; rw [if_pos (by decide +kernel)], q _ F1 H1 s1 (.bl true)⟩
theorem eqv_bool (a b : Bool) : PyData.eqv (.bool a) (.bool b) = decide (a = b) := by cases a <;> cases b <;> rfl
theorem shp_bool (a : Bool) : SeqAt.shaped (.bool a) = true := by cases a <;> decide +kernel
theorem eq_b {a b : Bool} : RB g (rEqU g.K) (.bool a) (.bool b) (.bool (decide (a = b))) := eqv_bool a b ▸ eqd (shp_bool a) (shp_bool b)
theorem ne_b {a b : Bool} : RB g (rNeU g.K) (.bool a) (.bool b) (.bool (!decide (a = b))) := eqv_bool a b ▸ ned (shp_bool a) (shp_bool b)
end
end DW
/-! slices of tuples, is not None, options as data -/
namespace DW
open PySem PySem.Spec PyProof.Rows L2
def rNotN : R2 := fun x y H Q => y = .non ∧ Q (.bl (!decide (x = .non))) H
theorem uNotN {X : Cx} : OpR X (compareOp .IsNot) rNotN := op_notN
section
variable {g : Gd} {G : List Sl} {te ta tb tc : TE} {tt tu : TT} {d x y z : PyData} {ds es : List PyData} {i : Nat}
theorem nis_n : RB g rNotN x .none (.bool (!isND x)) := fun u v H hu hv Q q => by
  cases hv
  refine ⟨rfl, ?_⟩
  have e : decide (u = V.non) = isND x := by
    cases hu with
    | non => exact decide_eq_true rfl
    | bl b => exact decide_eq_false fun z => by cases z
    | int b => exact decide_eq_false fun z => by cases z
    | str b => exact decide_eq_false fun z => by cases z
    | lst _ _ => exact decide_eq_false fun z => by cases z
    | tup _ _ => exact decide_eq_false fun z => by cases z
  rw [e]; exact q _ (.bl _)
end
end DW
/-! [x] * n -/
namespace DW
open PySem PySem.Spec PyProof.Rows L2
section
variable {g : Gd} {G : List Sl} {te ta tb tc : TE} {tt tu : TT} {d x y z : PyData} {ds es : List PyData} {i : Nat}
theorem flat_rep {α : Type} (x : α) : ∀ n : Nat, (List.replicate n [x]).flatten = List.replicate n x
  | 0 => rfl
  | n + 1 => by rw [List.replicate_succ, List.flatten_cons, flat_rep x n]; rfl
theorem dps_rep {K : PySem.W.Frag} {F : Hp} {v : V} (h : Dp K F v d) : ∀ n : Nat, DpAll K F (List.replicate n v) (List.replicate n d)
  | 0 => .nil
  | n + 1 => .cons h (dps_rep h n)
theorem el_rep {k : Int} (h : EL g ta G [d]) (hb : E g tb G (.int k)) (h1 : k ≤ 100000) (h0 : -100000 ≤ k) : EL g (tOp rRep ta tb) G (List.replicate k.toNat d) := fun σ F H hh Q q =>
  h σ F H hh _ fun p vs F1 H1 s1 p0 pF pH d1 => hb σ F1 H1 (hh.mono s1) _ fun w F2 H2 s2 d2 => by
    cases d2
    cases d1 with
    | cons dv dr =>
      cases dr
      have e2 := s2.h.lst pH
      refine ⟨p, k, _, rfl, rfl, e2, by omega, by omega, ?_, fun r hr => ?_⟩
      · show 1 * k.toNat ≤ _
        have : sizeLine = 16777216 := sizeLine_eq
        omega
      · rw [flat_rep]
        have ss := s1.trans s2
        exact q r _ F2 _ (ss.trans (Stp.mine s2.i hr)) (old_free ss hr) (s2.i.free hr) upd_same (dps_rep (s2.f.dp _ _ dv) _)
end
end DW
/-! all([..]), any([..]) of bools -/
namespace DW
open PySem PySem.Spec PyProof.Rows L2
end DW
/-! all, any of a generator expression whose element calls: the body runs in a context of its own -/
namespace GA
open PySem PySem.Spec PyProof.Rows L2 GxR GenW
/-- the context of a generator expression's body -/
abbrev gblk (X : Cx) (s : Shared) (H : Hp) (cenv : Env) (fp : List Addr) (A : Around) (pn : List (Addr × Obj)) : Cx :=
  { X with s_0 := s, H_0 := H, env := cenv, outer := X.stack, stack := cenv :: X.stack, A := A, ex := fp, fn := fun _ => false, pn := pn, xe := fun _ _ => False }
abbrev genv (X : Cx) (scope : Scope) (C : Addr) (code : Value) : Env := genEnv scope (cloFrom X.env.cells scope.names []) C code builtinsNs X.env
section
variable {X : Cx} {pins : List (Addr × Obj)} {σ : L2.St} {H : Hp} {s : Shared}
theorem gen_start {scope : Scope} {own : List (Str × Nat)} {fp : List Addr} {A : Around} {code : Value} {a : Addr} {gobj : Obj} {h6 : Heap} {g6 : Array GenState} {t6 : Nat} {m0 : Str → Option Value} (I : Inv X pins σ H s) (ok : BlkOk X.N X.env.scope scope own) (hN : X.N.Nodup) (hcell : ∀ y ∈ scope.names, y.2 ≠ .cell)
    (hfp : ∀ b ∈ fp, FpOk X pins H b ∧ b < s.heap.objs.size) (hhd : A.handled = none) (hfr : A.frames = some (genv X scope s.heap.objs.size code :: X.stack)) (kp : ∀ b o, s.heap.get? b = some o → h6.get? b = some o) (hns : h6.Ns s.heap.objs.size m0) (ha : s.heap.objs.size < a) (hga : h6.get? a = some gobj)
    (hgd : ∀ v, gobj.data ≠ .cell v) (hg6 : AllBare g6) :
    Inv (gblk X s H (genv X scope s.heap.objs.size code) fp A [(a, gobj)]) [] (wipe σ (own.map (·.2))) H { s with heap := h6, gens := g6, toks := t6 } := by
  have hfree : ∀ y ∈ scope.names, y.2 = .free → ∃ c, X.env.cells.lookup y.1 = some c := fun y hy e => by
    rcases ok.free y hy e with k | k
    · exact I.ok.has _ (.inl k)
    · exact I.ok.has _ (.inr k)
  generalize hcenv : genv X scope s.heap.objs.size code = cenv at hfr ⊢
  have hL : cenv.locals = s.heap.objs.size := by rw [← hcenv]; rfl
  have hcl : cenv.cells = cloFrom X.env.cells scope.names [] := by rw [← hcenv]; rfl
  have hsc : cenv.scope = scope := by rw [← hcenv]; rfl
  have cm : ∀ {y c}, (y, c) ∈ cloFrom X.env.cells scope.names [] → X.env.cells.lookup y = some c ∧ c < s.heap.objs.size := fun {y c} hm => by
    rcases cloFrom_mem hm with hm | ⟨h1, rfl⟩
    · cases hm
    · obtain ⟨c, hc⟩ := hfree _ h1 rfl
      rw [hc]
      obtain ⟨w, z⟩ := I.cell _ _ hc
      exact ⟨rfl, z.lt⟩
  have mem : ∀ {y c}, cenv.cells.lookup y = some c → X.env.cells.lookup y = some c ∧ c < s.heap.objs.size := fun {y c} e => by
    rw [hcl] at e
    exact cm (PySem.mem_of_lookup e)
  have look : ∀ {y}, scope.names.lookup y = some .free → ∃ c, cenv.cells.lookup y = some c ∧ X.env.cells.lookup y = some c := fun {y} hl => by
    obtain ⟨c', e'⟩ := L2.mem_lookup (cloFrom_has (cells := X.env.cells) (acc := []) (PySem.mem_of_lookup hl))
    rw [← hcl] at e'
    exact ⟨c', e', (mem e').1⟩
  have vis : ∀ {y}, Vis cenv.scope y → scope.names.lookup y = some .local ∨ scope.names.lookup y = some .free := fun {y} h => by
    rw [hsc] at h
    rcases h with h | h | h
    · exact .inl h
    · exact absurd rfl (hcell _ (PySem.mem_of_lookup h))
    · exact .inr h
  have okB : (gblk X s H cenv fp A [(a, gobj)]).Ok := by
    refine ⟨I.ok.mod, by show cenv.scope.kind = _; rw [hsc]; exact ok.kind, by show cenv.globals = _; rw [← hcenv]; exact I.ok.glob, by show cenv.builtins = _; rw [← hcenv]; rfl, by show s.heap.objs.size ≤ cenv.locals; rw [hL]; exact Nat.le_refl _,
      fun y z c e1 e2 => I.ok.inj y z c (mem e1).1 (mem e2).1, fun y hy => ?_, fun y c z e => ?_, fun _ => hhd, hfr, .inr ⟨rfl, by show cenv.frame = some cenv.locals; rw [← hcenv]; rfl⟩, fun b hb => ⟨?_, fun y c e z => ?_⟩, I.bs, Nat.le_trans I.ok.bsz I.sz, fun b o e hb => ?_, fun b hb z => ?_, I.stack, I.stkFree⟩
    · show ∃ c, cenv.cells.lookup y = some c
      rcases hy with hy | hy
      · have hy : cenv.scope.names.lookup y = some .cell := hy
        rw [hsc] at hy
        exact absurd rfl (hcell _ (PySem.mem_of_lookup hy))
      · have hy : cenv.scope.names.lookup y = some .free := hy
        rw [hsc] at hy
        obtain ⟨c, h1, _⟩ := look hy
        exact ⟨c, h1⟩
    · cases z
    · show b ≠ cenv.locals
      rw [hL]; exact Nat.ne_of_lt (hfp b hb).2
    · exact (hfp b hb).1.2.2.2.2.1 y c (mem e).1 z
    · rcases (hfp b hb).1.2.2.2.1 with z | z
      · exact I.ok.noex b o e z
      · exact absurd (Nat.lt_of_lt_of_le (Heap.lt_size e) (Nat.le_trans I.ok.bsz z)) (Nat.lt_irrefl _)
    · rcases List.mem_cons.mp (I.stkSub b z) with z | z
      · exact (hfp b hb).1.2.1 z
      · exact (hfp b hb).1.2.2.1 z
  refine ⟨okB, rfl, hg6, Un.kept kp, ⟨m0, by show Heap.Ns _ cenv.locals _; rw [hL]; exact hns, fun i y av e1 e2 e3 => ?_⟩, fun y c e => ?_, ?_, fun y c e => I.freeC y c (mem e).1, fun p hp => ?_, I.hok.kept kp, by rw [wipe_length]; exact I.len⟩
  · obtain ⟨e2, hne⟩ := wipe_some e2
    have hfr : scope.names.lookup y = some .free := by
      rcases vis e3 with e | e
      · rcases ok.own _ (PySem.mem_of_lookup e) (.inl rfl) with e' | e'
        · obtain ⟨p, hp, hpy⟩ := List.mem_map.mp e'
          have e3 := ok.ix p hp
          have : p.1 = y := hpy
          rw [this] at e3
          exact absurd (List.mem_map.mpr ⟨p, hp, nodup_ix hN e3 e1⟩) hne
        · exact absurd (List.mem_of_getElem? e1) e'
      · exact e
    obtain ⟨m, hn, hl⟩ := I.loc
    have hvis : Vis X.env.scope y := (ok.free _ (PySem.mem_of_lookup hfr) rfl).elim (fun k => .inr (.inl k)) (fun k => .inr (.inr k))
    obtain ⟨w, r, q⟩ := hl i y av e1 e2 hvis
    refine ⟨w, r, .inr ⟨.inr (by show cenv.scope.names.lookup y = _; rw [hsc]; exact hfr), ?_⟩⟩
    obtain ⟨c, h1, h2⟩ := look hfr
    rcases q with ⟨k, _⟩ | ⟨_, c', e', z⟩
    · have k : X.env.scope.names.lookup y = some .local := k
      rcases ok.free _ (PySem.mem_of_lookup hfr) rfl with k' | k' <;> rw [show X.env.scope.names.lookup y = _ from k'] at k <;> cases k
    · rw [h2] at e'; cases e'
      exact ⟨c, h1, z.keeps kp⟩
  · obtain ⟨w, z⟩ := I.cell y c (mem e).1
    exact ⟨w, z.keeps kp⟩
  · show H cenv.locals = none
    rw [hL]; exact I.hok.fresh (Nat.le_refl _)
  · have hp : p = (a, gobj) := by simpa using hp
    subst hp
    refine ⟨hga, I.hok.fresh (Nat.le_of_lt ha), by show a ≠ cenv.locals; rw [hL]; exact Nat.ne_of_gt ha, fun hb => ?_, hgd⟩
    have hb : a ∈ frs X.stack := hb
    rcases List.mem_cons.mp (I.stkSub a hb) with z | z
    · have := I.lt; rw [← z] at this; exact absurd (Nat.lt_trans this ha) (Nat.lt_irrefl _)
    · exact I.nofs (Nat.le_of_lt ha) z
/-- the generators have changed -/
theorem inv_gens {s' : Shared} (I : Inv X pins σ H s) (hh : s'.heap = s.heap) (ho : s'.os = s.os) (hb : AllBare s'.gens) : Inv X pins σ H s' :=
  ⟨I.ok, ho.trans I.os, hb, hh ▸ I.base, hh ▸ I.loc, hh ▸ I.cell, I.free, I.freeC, hh ▸ I.pin, hh ▸ I.hok, I.len⟩
end
theorem over_comp {A : Around} {elt tg iter : Expr} {scope : Scope} {pos : Pos} {it acc : Value} {cenv : Env} : A.over (.compLoop (.GeneratorExp elt [⟨tg, iter, [], 0⟩] scope pos) 0 it acc cenv) [] = A.deeper cenv := by
  first
    | rfl
    | (obtain ⟨hd, d, fr, gs, u⟩ := A; simp [Around.over, Around.deeper, marksOver, frameCount, unitsOf, envsOf, guardsOf, pushEnvs, pushGuards, Code.envs, Code.env?, Code.isFrame, Code.guards, Code.isGuard, Code.weight, Code.frames, Code.isCreation, Code.isCaller, Code.cUnits])
end GA
namespace GA
open PySem PySem.Spec PyProof.Rows L2 GxR GenW
/-- an item has come: it ends the walk, or the walk goes on -/
def Yp (Xg : Cx) (e : Bool) (Q : VK) : Protocol := fun _ _ v s1 kap => ∃ (b : Bool) (σ' : L2.St) (H' : Hp), v = .bool b ∧ L2.Inv Xg [] σ' H' s1 ∧ (b = e → Q (.bl e) H') ∧ (b ≠ e → ∀ s', s'.heap = s1.heap → s'.os = s1.os → AllBare s'.gens → kap (.send .none) s')
def Fp (Xg : Cx) (e : Bool) (Q : VK) : Nat → Shared → Shared → Prop := fun _ _ s1 => ∃ (σ' : L2.St) (H' : Hp), L2.Inv Xg [] σ' H' s1 ∧ Q (.bl (!e)) H'
def Rp (Xg : Cx) (e : Bool) (Q : VK) : GenEnd := fun n s₀ r s1 => ((r = .ok (.ret .none) ∨ r = .ok .next) ∧ Fp Xg e Q n s₀ s1) ∨ ∃ x, r = .error x ∧ (fun (_ : Value) (_ : Shared) => False) x s1
/-- what a turn must do -/
def Turns (J : It) (g : TG) (te : TE) (vs : List Nat) (σ : L2.St) (e : Bool) (Q : VK) (n : Nat) (W : Nat → Hp → Prop) : Prop :=
  ∀ i H, W i H → (i = n ∧ J.stop i H ∧ Q (.bl (!e)) H) ∨ (i < n ∧ J.go i H ∧ ∀ x H', J.yld i H x H' → g x (wipe σ vs) H' fun σ2 H2 => wipe σ2 vs = wipe σ vs ∧ te σ2 H2 fun y H3 => ∃ b, y = .bl b ∧ ((b = e ∧ Q (.bl e) H3) ∨ (b ≠ e ∧ W (i + 1) H3)))
theorem seg_loop {X : Cx} {s4 : Shared} {H4 : Hp} {cenv : Env} {fp : List Addr} {Aq : Around} {it : Addr} {pn : List (Addr × Obj)} {elt tg iter : Expr} {scope : Scope} {pos : Pos} {J : It} {tn : Nat → Heap → Prop} {g : TG} {te : TE} {vs : List Nat} {σ : L2.St} {e : Bool} {Q : VK} {n : Nat} {W : Nat → Hp → Prop}
    (hc : X.calm = true) (hco : cenv.scope.isCoroutine = false) (hpn : ∀ b ∈ fp, ∀ p ∈ pn, p.1 ≠ b) (T : Turn X.prog X.w X.K tg J fp it tn)
    (pg : PG (gblk X s4 H4 cenv fp (Aq.over (.compLoop (.GeneratorExp elt [⟨tg, iter, [], 0⟩] scope pos) 0 (.ref it) .none cenv) []) pn) tg g)
    (pe : PE (gblk X s4 H4 cenv fp (Aq.over (.compLoop (.GeneratorExp elt [⟨tg, iter, [], 0⟩] scope pos) 0 (.ref it) .none cenv) []) pn) elt te)
    (turn : Turns J g te vs σ e Q n W) :
    ∀ (k i : Nat) (s₀ s : Shared) (H : Hp), n - i = k → L2.Inv (gblk X s4 H4 cenv fp (Aq.over (.compLoop (.GeneratorExp elt [⟨tg, iter, [], 0⟩] scope pos) 0 (.ref it) .none cenv) []) pn) [] (wipe σ vs) H s → tn i s.heap → (∀ b ∈ fp, H b = none) → W i H →
      Seg (model X.prog X.w) Aq (Rp (gblk X s4 H4 cenv fp (Aq.over (.compLoop (.GeneratorExp elt [⟨tg, iter, [], 0⟩] scope pos) 0 (.ref it) .none cenv) []) pn) e Q) (Yp (gblk X s4 H4 cenv fp (Aq.over (.compLoop (.GeneratorExp elt [⟨tg, iter, [], 0⟩] scope pos) 0 (.ref it) .none cenv) []) pn) e Q) k s₀
        (.compLoop (.GeneratorExp elt [⟨tg, iter, [], 0⟩] scope pos) 0 (.ref it) .none cenv) ((model X.prog X.w).den (.compLoop (.GeneratorExp elt [⟨tg, iter, [], 0⟩] scope pos) 0 (.ref it) .none cenv)) [] s := by
  generalize hXg : gblk X s4 H4 cenv fp (Aq.over (.compLoop (.GeneratorExp elt [⟨tg, iter, [], 0⟩] scope pos) 0 (.ref it) .none cenv) []) pn = Xg at pg pe ⊢
  have hA : Xg.A = Aq.over (.compLoop (.GeneratorExp elt [⟨tg, iter, [], 0⟩] scope pos) 0 (.ref it) .none cenv) [] := by rw [← hXg]
  have hP : Xg.prog = X.prog := by rw [← hXg]
  have hW : Xg.w = X.w := by rw [← hXg]
  have hK : Xg.K = X.K := by rw [← hXg]
  have hC : Xg.calm = true := by rw [← hXg]; exact hc
  have hE : Xg.env = cenv := by rw [← hXg]
  have hxe : Xg.xe = fun _ _ => False := by rw [← hXg]
  have stat : ∀ {σ' : L2.St} {H' : Hp} {s' : Shared}, L2.Inv Xg [] σ' H' s' → (∀ b ∈ fp, H' b = none) → ∀ b ∈ fp, FpOk Xg [] H' b := fun {σ' H' s'} I' hn b hb => by
    subst hXg
    exact ⟨hn b hb, (I'.ok.exf b hb).1, I'.ok.exfs b hb, .inl hb, fun x c e => (I'.ok.exf b hb).2 x c e, fun p hp => by
      rcases List.mem_append.mp hp with z | z
      · exact hpn b hb p z
      · cases z⟩
  intro k
  induction k with
  | zero =>
    intro i s₀ s H hk I st hn w
    rcases turn i H w with ⟨hi, stop, q⟩ | ⟨hi, _⟩
    · show Seg _ Aq _ _ _ s₀ _ ((compTurn (.GeneratorExp elt [⟨tg, iter, [], 0⟩] scope pos) 0 (.ref it) .none cenv).onRaise (leaving cenv)) [] s
      rw [compTurn_gen, Sem.onRaise_eq_wrap]
      refine seg_bind_wrap (wpAny_standAt ?_)
      have td := T.done Xg hP hW hK hC i [] s _ H (fun _ _ => False) I (stat I hn) st stop
      rw [hA] at td
      refine seg_bind_wrap (thnF td fun r s1 ⟨hr, I1⟩ => ?_)
      subst hr
      exact seg_end (.ok .next) (.inl ⟨.inr rfl, _, H, I1, q⟩)
    · omega
  | succ k ih =>
    intro i s₀ s H hk I st hn w
    rcases turn i H w with ⟨hi, _⟩ | ⟨hi, go, step⟩
    · omega
    · show Seg _ Aq _ _ _ s₀ _ ((compTurn (.GeneratorExp elt [⟨tg, iter, [], 0⟩] scope pos) 0 (.ref it) .none cenv).onRaise (leaving cenv)) [] s
      rw [compTurn_gen, Sem.onRaise_eq_wrap]
      refine seg_bind_wrap (wpAny_standAt ?_)
      have ti := T.item Xg hP hW hK hC i [] s _ H (fun _ _ => False) I (stat I hn) st go
      rw [hA] at ti
      refine seg_bind_wrap (thnF ti fun r s6 ⟨u, hr, h6⟩ => ?_)
      subst hr
      refine seg_bind_wrap (thnF h6 fun _ s7 ⟨x, H7, I7, r7, y7, st7, n7⟩ => ?_)
      have I7' := I7.pinned (stat I7 n7) (T.obj _ _ st7)
      have pgr := pg.run _ s7 _ H7 x u _ I7' r7 (step x H7 y7)
      rw [hxe, hA, hP, hW, hE] at pgr
      refine seg_bind_wrap (thnF pgr fun _ s8 ⟨σ8, H8, I8, hw8, q8⟩ => ?_)
      refine seg_bind_wrap (wpAny_tests_nil ?_)
      simp only [if_true]
      have hy : ∀ v, yieldOut cenv v = yieldValue v := fun v => by simp only [yieldOut, hco, Bool.false_eq_true, if_false]
      simp only [hy]
      rw [Sem.bind_eq_wrap', Sem.bind_eq_wrap', Sem.wrap_wrap, Sem.wrap_wrap]
      have per := pe.run _ s8 σ8 H8 _ I8 q8
      rw [hxe, hA, hP, hW, hE] at per
      refine seg_wrap (thnF per fun v s10 ⟨yv, H10, I10, r10, b, hyb, nx⟩ => ?_)
      subst hyb
      obtain rfl : v = Value.bool b := r10
      have pin' : ∀ b ∈ fp, ∀ o, s7.heap.get? b = some o → s10.heap.get? b = some o ∧ H10 b = none := fun b hb o e =>
        let z := I10.pin (b, o) (List.mem_append_right _ (List.mem_append_right _ (mem_pinsAt hb e)))
        ⟨z.1, z.2.1⟩
      have hl : (wipe σ vs).length = σ8.length := by rw [← hw8, wipe_length]
      have I11 : L2.Inv Xg [] (wipe σ vs) H10 s10 := (I10.unpinned (pins := [])).weak hl fun j v e => by
        rw [← hw8] at e
        exact (wipe_some e).1
      refine seg_at (seg_yield rfl rfl rfl ⟨b, _, H10, rfl, I11, fun hb => ?_, fun hb s' hs' ho' hg' => ?_⟩)
      · rcases nx with ⟨_, q⟩ | ⟨hne, _⟩
        · exact q
        · exact absurd hb hne
      · rcases nx with ⟨he, _⟩ | ⟨_, w'⟩
        · exact absurd he hb
        · refine seg_again rfl (ih (i + 1) s' s' H10 (by omega) (inv_gens I11 hs' ho' hg') (by rw [hs']; exact T.keep _ _ _ st7 fun b hb o e => (pin' b hb o e).1) (fun b hb => ?_) w')
          obtain ⟨o, e, _⟩ := T.obj _ _ st7 b hb
          exact (pin' b hb o e).2
end GA
namespace GA
open PySem PySem.Spec PyProof.Rows L2 GxR GenW
theorem seg_start {P : Program} {w : World} {K : PySem.W.Frag} {A : Around} {fp : List Addr} {it : Addr} {elt tg iter : Expr} {scope : Scope} {pos : Pos} {J : It} {tn : Nat → Heap → Prop} {cenv : Env} {R : GenEnd} {Y : Protocol} {n : Nat} {s₀ s : Shared} (T : Turn P w K tg J fp it tn) (st : tn 0 s.heap)
    (loop : Seg (model P w) A R Y n s₀ (.compLoop (.GeneratorExp elt [⟨tg, iter, [], 0⟩] scope pos) 0 (.ref it) .none cenv) ((model P w).den (.compLoop (.GeneratorExp elt [⟨tg, iter, [], 0⟩] scope pos) 0 (.ref it) .none cenv)) [] s) :
    Seg (model P w) A R Y n s₀ (.compStart (.GeneratorExp elt [⟨tg, iter, [], 0⟩] scope pos) 0 (.ref it) .none cenv) ((model P w).den (.compStart (.GeneratorExp elt [⟨tg, iter, [], 0⟩] scope pos) 0 (.ref it) .none cenv)) [] s := by
  show Seg _ A _ _ _ s₀ _ ((compStart (.GeneratorExp elt [⟨tg, iter, [], 0⟩] scope pos) 0 (.ref it) .none cenv).onRaise (leaving cenv)) [] s
  unfold compStart
  rw [Sem.onRaise_eq_wrap]
  show Seg _ A _ _ _ s₀ _ ((ask >>= _).wrap _ _ _ _) [] s
  refine seg_bind_wrap (wpAny_askSetting ?_)
  split
  · exact seg_again rfl loop
  · first
      | exact seg_bind_wrap (wpAny_rule (seg_bind_wrap (wpAny_standAt (seg_bind_wrap (T.self _ 0 s _ _ st (seg_again rfl loop))))))
      | (refine seg_bind_wrap (wpAny_rule ?_); show Seg _ A _ _ _ s₀ _ ((standAt iter.pos >>= _).wrap _ _ _ _) [] s; exact seg_bind_wrap (wpAny_standAt (seg_bind_wrap (T.self _ 0 s _ _ st (seg_again rfl loop)))))
/-- the walk of any -/
theorem any_loop {P : Program} {w : World} {A : Around} {Xg : Cx} {Q : VK} {a : Addr} {g : Nat} {R : Result → Shared → Prop} (hh : A.handled = none) (hd : A.depth < recursionLimit) (isg : ∀ {σ' H' s'}, L2.Inv Xg [] σ' H' s' → s'.heap.IsGen a g)
    (hR : ∀ b (σ' : L2.St) H' s', L2.Inv Xg [] σ' H' s' → Q (.bl b) H' → R (.ok (.ret (.bool b))) s') :
    ∀ (m : Nat) (s : Shared) (σ' : L2.St) (H' : Hp), L2.Inv Xg [] σ' H' s → (∃ gs, s.gens[g]? = some gs ∧ gs.Goes (model P w) A.in1.in1 (Rp Xg true Q) (Yp Xg true Q) m (.send .none) (s.setGen g .running)) →
      codeAny (model P w) A (.builtin "any.loop" ⟨[.ref a], []⟩) R s := by
  intro m
  induction m with
  | zero =>
    intro s σ' H' I ⟨gs, hgs, hgo⟩
    refine codeAny_builtin F.entry_any_loop ?_
    rw [Around.under_plainId F.plain_any_loop _]
    show wpAny _ A.in1 (pyNext (.ref a) >>= _) _ _ s
    refine wpAny_bind (next_genG (A := A.in1) hh I.nolimit hd (isg I) hgs hgo (fun v s₁ gs' hbare hv => ?_) (fun s₁ hp h' hk => ?_) fun e s₁ he => he.elim)
    · obtain ⟨b, σ1, H1, rfl, I1, h1, h2⟩ := hv
      refine wpAny_bind (wpAny_holding (wpAny_truthy_bool ?_))
      refine wpAny_bind (wpAny_letGo ?_)
      cases b with
      | false => exact False.elim (h2 (by decide) s₁ rfl rfl I1.bare)
      | true =>
        simp only [if_true]
        refine wpAny_bind (wpAny_rule (wpAny_pure ?_))
        exact hR true σ1 H1 _ (inv_gens I1 rfl rfl (allBare_setGen I1.bare hbare)) (h1 rfl)
    · obtain ⟨σ1, H1, I1, q⟩ := hp
      refine wpAny_bind (wpAny_rule (wpAny_pure ?_))
      have I2 := inv_gens (s' := s₁.setGen g .finished) I1 rfl rfl (allBare_setGen I1.bare rfl)
      exact hR false σ1 H1 _ (I2.kept (t' := (s₁.setGen g .finished).toks) hk) q
  | succ m ih =>
    intro s σ' H' I ⟨gs, hgs, hgo⟩
    have hgl : g < s.gens.size := (Array.getElem?_eq_some_iff.mp hgs).1
    refine codeAny_builtin F.entry_any_loop ?_
    rw [Around.under_plainId F.plain_any_loop _]
    show wpAny _ A.in1 (pyNext (.ref a) >>= _) _ _ s
    refine wpAny_bind (wpAny_gsz (n := g + 1) hgl (next_genG (A := A.in1) hh I.nolimit hd (isg I) hgs hgo (fun v s₁ gs' hbare hv => ?_) (fun s₁ hp h' hk => ?_) fun e s₁ he => he.elim))
    · intro hsz
      obtain ⟨b, σ1, H1, rfl, I1, h1, h2⟩ := hv
      refine wpAny_bind (wpAny_holding (wpAny_truthy_bool ?_))
      refine wpAny_bind (wpAny_letGo ?_)
      have I2 := inv_gens (s' := s₁.setGen g gs') I1 rfl rfl (allBare_setGen I1.bare hbare)
      cases b with
      | false =>
        simp only [Bool.false_eq_true, if_false]
        have hsz1 : g < s₁.gens.size := by
          have q : (s₁.setGen g gs').gens.size = s₁.gens.size := setGen_size _ _ _
          have hsz' : g + 1 ≤ (s₁.setGen g gs').gens.size := hsz
          omega
        refine wpAny_pure ⟨plainId_quiet F.plain_any_loop _, ih (s₁.setGen g gs') σ1 H1 I2 ⟨gs', setGen_at hsz1, ?_⟩⟩
        exact h2 (by decide) _ rfl rfl (allBare_setGen I2.bare rfl)
      | true =>
        simp only [if_true]
        refine wpAny_bind (wpAny_rule (wpAny_pure ?_))
        exact hR true σ1 H1 _ I2 (h1 rfl)
    · intro _
      obtain ⟨σ1, H1, I1, q⟩ := hp
      refine wpAny_bind (wpAny_rule (wpAny_pure ?_))
      have I2 := inv_gens (s' := s₁.setGen g .finished) I1 rfl rfl (allBare_setGen I1.bare rfl)
      exact hR false σ1 H1 _ (I2.kept (t' := (s₁.setGen g .finished).toks) hk) q
end GA
namespace GA
open PySem PySem.Spec PyProof.Rows L2 GxR GenW
/-- all(elt for tg in iter) (e: False ends it), any (e: True ends it); P: the def's table of code objects, which may grow -/
def tQuant (P : Addr) (e : Bool) (wi : TI) (g : TG) (te : TE) (vs : List Nat) : TE := fun σ H Q => wi σ H fun J H1 => TabG H1 P ∧ ∀ H2, Tabbed P H1 H2 → ∃ (n : Nat) (W : Nat → Hp → Prop), W 0 H2 ∧ Turns J g te vs σ e Q n W
/-- a generator, ready to be walked -/
def Made (X : Cx) (pins : List (Addr × Obj)) (σ : L2.St) (e : Bool) (Q : VK) (u : Value) (s6 : Shared) : Prop :=
  ∃ (a : Addr) (g n : Nat) (Xg : Cx) (σ' : L2.St) (H' : Hp), u = .ref a ∧ (∀ {σ' H' s'}, L2.Inv Xg [] σ' H' s' → s'.heap.IsGen a g) ∧ L2.Inv Xg [] σ' H' s6 ∧
    (∃ gs, s6.gens[g]? = some gs ∧ gs.Goes (model X.prog X.w) X.A.in1.in1 (Rp Xg e Q) (Yp Xg e Q) n (.send .none) (s6.setGen g .running)) ∧ ∀ (σ' : L2.St) H' s', L2.Inv Xg [] σ' H' s' → L2.Inv X pins σ H' s'
section
variable {X : Cx} {pins : List (Addr × Obj)} {σ : L2.St} {H : Hp} {s : Shared}
theorem gen_make {c P : Addr} {elt iter tg : Expr} {gpos : Pos} {scope : Scope} {own : List (Str × Nat)} {wi : TI} {g : TG} {te : TE} {k : Nat} {e : Bool} {Q : VK} (hr : Room (k + 1) X.A) (hc : X.calm = true) (hN : X.N.Nodup) (TB : TabB X.base X.mg c P) (hcode : X.env.code = .ref c) (ok : BlkOk X.N X.env.scope scope own)
    (hco : scope.isCoroutine = false) (hcell : ∀ y ∈ scope.names, y.2 ≠ .cell) (h0 : scope.names.lookup (".0" : Str) = some NameKind.local) (hi : PI X tg iter wi)
    (pg : ∀ (s : Shared) (H : Hp) (C : Addr) (code : Value) (fp : List Addr) (A : Around) (pn : List (Addr × Obj)), PG (gblk X s H (genv X scope C code) fp A pn) tg g)
    (pe : ∀ (s : Shared) (H : Hp) (C : Addr) (code : Value) (fp : List Addr) (A : Around) (pn : List (Addr × Obj)), Room k A → PE (gblk X s H (genv X scope C code) fp A pn) elt te)
    (hs : ∀ v, genFold iter X.env v = pure v) (I : L2.Inv X pins σ H s) (h : tQuant P e wi g te (own.map (·.2)) σ H Q) :
    wpAny (model X.prog X.w) X.A (eval (.GeneratorExp elt [⟨tg, iter, [], 0⟩] scope gpos) X.env) (Made X pins σ e Q) X.xe s := by
  have hfree : ∀ y ∈ scope.names, y.2 = .free → ∃ c, X.env.cells.lookup y.1 = some c := fun y hy e => by
    rcases ok.free y hy e with k | k
    · exact I.ok.has _ (.inl k)
    · exact I.ok.has _ (.inr k)
  refine wpAny_GeneratorExp_make hco (closure_ok hfree) hcell h0 ok.kind (by have := hr.dp; omega) ?_ hs
  refine thn (hi.run pins s σ H _ I h) fun xv s1 hx => thn hx fun itv s2 h2 => ?_
  obtain ⟨it, fp, tn, J, H2, rfl, I2, T, st2, f2, ⟨ps, hP, ht⟩, q⟩ := h2
  have hPs : s2.heap.get? P = some { cls := .none, data := .fields ps } := I2.hok P _ hP
  have hPlt : P < s2.heap.objs.size := Heap.lt_size hPs
  have cd : PySem.W.CodeHd s2.heap c P := TB.code.keeps fun b u e => I2.bk b u e
  refine ⟨I2.nolimit, ?_⟩
  have cont : ∀ (code : Value) (h3 : Heap) (tk : Nat) (ps' : Array Value), Heap.ExtBut P s2.heap h3 → s2.heap.objs.size ≤ h3.objs.size → h3.get? P = some { cls := .none, data := .fields ps' } → (∃ more, ps' = ps ++ more) → TriplesOk ps'.toList →
      wpAny (model X.prog X.w) X.A (builtinsFor X.env.globals X.env.builtins) (fun bi s₄ =>
        ∀ h', h'.Ns s₄.heap.objs.size (fun y => if y = ".0" then some (.ref it) else none) → Heap.SameBut s₄.heap.objs.size (s₄.heap.push { cls := .type "frame", data := .dict #[] }) h' →
          Made X pins σ e Q (.ref h'.objs.size) { s₄ with
            gens := s₄.gens.push (.fresh (.compStart (.GeneratorExp elt [⟨tg, iter, [], 0⟩] scope gpos) 0 (.ref it) .none (genEnv scope (cloFrom X.env.cells scope.names []) s₄.heap.objs.size code bi X.env))),
            toks := s₄.toks + 1 + 1 + 1,
            heap := h'.push { cls := .type "generator", data := .fields #[.int s₄.gens.size 0, .str "<genexpr>" (s₄.toks + 1), .str (X.env.qual ++ "<genexpr>") (s₄.toks + 1 + 1)] } }) X.xe { s2 with heap := h3, toks := tk } := by
    intro code h3 tk ps' hx hsz hP3 hmore ht3
    obtain ⟨bm, ob, e1, e2, e3, e4, e5, e6, e7, e8⟩ := TB.bm
    have keep3 : ∀ b u, b ≠ P → s2.heap.get? b = some u → h3.get? b = some u := fun b u hb e => hx b u hb e
    refine wpAny_builtinsFor (m := X.mg) (by rw [I2.ok.glob]; exact (I2.mod.glob.keeps I2.bk).extBut hx TB.gP) e1 e2 (keep3 _ _ e4 (I2.bk _ _ e5)) e6 e7 e8 ?_
    intro h' hn' hs'
    obtain ⟨more, em⟩ := hmore
    subst em
    have I4 := inv_tab (more := more) (h' := h3) (g' := s2.gens) (d' := s2.drawn) (t' := tk) I2 hP keep3 hP3 I2.bare
    generalize hs4 : ({ s2 with heap := h3, gens := s2.gens, drawn := s2.drawn, toks := tk } : Shared) = s4 at I4
    generalize hH4 : upd H2 P (.tbl (ps ++ more)) = H4 at I4
    have tab : Tabbed P H2 H4 := by rw [← hH4]; exact ⟨⟨ps ++ more, upd_same, ht3⟩, fun b hb => upd_ne hb⟩
    obtain ⟨n, W, w0, turn⟩ := q H4 tab
    have e4h : s4.heap = h3 := by rw [← hs4]
    have e4g : s4.gens = s2.gens := by rw [← hs4]
    have nP : ∀ b ∈ fp, b ≠ P := fun b hb z => by have := (f2 b hb).1; rw [z, hP] at this; cases this
    have szf : ∀ b ∈ fp, b < s2.heap.objs.size := fun b hb => by
      obtain ⟨o, e, _⟩ := T.obj _ _ st2 b hb
      exact Heap.lt_size e
    have f4 : ∀ b ∈ fp, FpOk X pins H4 b ∧ b < s4.heap.objs.size := fun b hb => by
      refine ⟨⟨?_, (f2 b hb).2⟩, by rw [e4h]; exact Nat.lt_of_lt_of_le (szf b hb) hsz⟩
      rw [tab.2 b (nP b hb)]; exact (f2 b hb).1
    have hsz' : h'.objs.size = h3.objs.size + 1 := by rw [hs'.1, Heap.size_push]
    have keep' : ∀ b o, h3.get? b = some o → h'.get? b = some o := fun b o e => hs'.extBut b o (Nat.ne_of_lt (Heap.lt_size e)) (Heap.get?_push_of_some _ e)
    generalize hgo : ({ cls := .type "generator", data := .fields #[.int s4.gens.size 0, .str "<genexpr>" (s4.toks + 1), .str (X.env.qual ++ "<genexpr>") (s4.toks + 1 + 1)] } : Obj) = gobj
    have I6 := gen_start (a := h'.objs.size) (gobj := gobj) (code := code) (h6 := h'.push gobj) (g6 := s4.gens.push (.fresh (.compStart (.GeneratorExp elt [⟨tg, iter, [], 0⟩] scope gpos) 0 (.ref it) .none (genv X scope s4.heap.objs.size code)))) (t6 := s4.toks + 1 + 1 + 1)
      (A := X.A.in1.in1.over (.compLoop (.GeneratorExp elt [⟨tg, iter, [], 0⟩] scope gpos) 0 (.ref it) .none (genv X scope s4.heap.objs.size code)) []) I4 ok hN hcell f4 (by rw [over_comp]; exact hr.hd)
      (by rw [over_comp]; exact Around.frames_deeper I4.ok.frames) (fun b o e => Heap.get?_push_of_some _ (keep' b o (by rw [← e4h]; exact e))) (by rw [e4h]; exact hn'.push _) (by rw [e4h, hsz']; exact Nat.lt_succ_self _) (Heap.get?_push_size _ (by rw [← hgo]; rfl)) (fun v q => by rw [← hgo] at q; cases q) (I4.bare.push rfl)
    have rm : Room k (X.A.in1.in1.over (.compLoop (.GeneratorExp elt [⟨tg, iter, [], 0⟩] scope gpos) 0 (.ref it) .none (genv X scope s4.heap.objs.size code)) []) := by
      rw [over_comp]
      exact ⟨hr.hd, by have := hr.dp; show X.A.depth + 1 + 3 * k + 5 < _; omega, by have := hr.un; show X.A.units + 1 + 1 + 3 + 16 * k + 200 < _; omega⟩
    have nfp : ∀ b ∈ fp, H4 b = none := fun b hb => (f4 b hb).1.1
    have st6 : tn 0 (h'.push gobj) := T.keep _ _ _ st2 fun b hb o e => Heap.get?_push_of_some _ (keep' b o (keep3 b o (nP b hb) e))
    have gst : ∀ (z : GenState), z.bare = true → AllBare (({ s4 with heap := h'.push gobj, gens := s4.gens.push (.fresh (.compStart (.GeneratorExp elt [⟨tg, iter, [], 0⟩] scope gpos) 0 (.ref it) .none (genv X scope s4.heap.objs.size code))), toks := s4.toks + 1 + 1 + 1 } : Shared).setGen s4.gens.size z).gens := fun z hz => allBare_setGen (I4.bare.push rfl) hz
    refine ⟨h'.objs.size, s4.gens.size, n, _, _, H4, rfl, fun {σ' H' s'} J' => ?_, I6, ⟨_, Array.getElem?_push_size .., rfl, seg_start T st6 (seg_loop hc hco (fun b hb p hp => ?_) T (pg _ _ _ _ _ _ _) (pe _ _ _ _ _ _ _ rm) turn n 0 _ _ H4 (Nat.sub_zero _) (inv_gens I6 rfl rfl (gst _ rfl)) st6 nfp w0)⟩, fun σ' H' s' J' => ?_⟩
    · have := (J'.pin (h'.objs.size, gobj) (List.mem_append_left _ (List.mem_singleton.mpr rfl))).1
      rw [← hgo] at this
      exact ⟨_, _, _, this, rfl, rfl, rfl⟩
    · have hp : p = (h'.objs.size, gobj) := by simpa using hp
      subst hp
      have h1 : b < s2.heap.objs.size := szf b hb
      have h2 : s2.heap.objs.size ≤ h3.objs.size := hsz
      have h3' : h'.objs.size = h3.objs.size + 1 := hsz'
      show h'.objs.size ≠ b
      exact Nat.ne_of_gt (by rw [h3']; exact Nat.lt_of_lt_of_le h1 (Nat.le_succ_of_le h2))
    · exact I4.call' (ch := fp) J'.os J'.base J'.hok J'.bare fun b hb => ⟨(f4 b hb).1.2.2.2.1, (f4 b hb).1.2.1, (f4 b hb).1.2.2.2.2.1, (f4 b hb).1.2.2.2.2.2⟩
  cases hf : codeAmong gpos ps.toList with
  | none =>
    refine wpAny_genexprCodeX hcode (cd.code hPs ht) (cd.tab hPs) hf fun c' h' tk hx hge hlt hco' _ htab' _ => ?_
    obtain ⟨o1, vs, f1, tf, fl, tg', inF, tx, tt, op, _, _, _, _, _, _, _, _, _, htr, _⟩ := hco'
    exact cont _ h' tk _ hx (Nat.le_trans hge (Nat.le_of_lt hlt)) htab'.2 ⟨_, rfl⟩ htr
  | some cv =>
    refine wpAny_genexprCode_hit hcode (cd.code hPs ht) hf ?_
    exact cont cv s2.heap s2.toks ps (Heap.ExtBut.refl _ _) (Nat.le_refl _) hPs ⟨#[], by simp⟩ ht
end
end GA
namespace GA
open PySem PySem.Spec PyProof.Rows L2 GxR GenW
/-- a generator expression's own scope -/
structure GenOk (scope : Scope) : Prop where
  co : scope.isCoroutine = false
  cell : ∀ y ∈ scope.names, y.2 ≠ .cell
  dot : scope.names.lookup (".0" : Str) = some NameKind.local
def genC (scope : Scope) : Bool := !scope.isCoroutine && (scope.names.all fun y => match y.2 with | .cell => false | _ => true) && (match scope.names.lookup (".0" : Str) with | some .local => true | _ => false)
theorem genOk_by {scope : Scope} (h : genC scope = true) : GenOk scope := by
  unfold genC at h
  simp only [Bool.and_eq_true, List.all_eq_true] at h
  obtain ⟨⟨h1, h2⟩, h3⟩ := h
  refine ⟨by simpa using h1, fun y hy e => ?_, ?_⟩
  · have := h2 y hy
    rw [e] at this; cases this
  · split at h3
    · assumption
    · cases h3
section
variable {X : Cx}
theorem pe_anyG {c P : Addr} {elt iter tg : Expr} {p pos gpos : Pos} {scope : Scope} {own : List (Str × Nat)} {wi : TI} {g : TG} {te : TE} {k : Nat} (hr : Room (k + 1) X.A) (hc : X.calm = true) (hN : X.N.Nodup) (TB : TabB X.base X.mg c P) (hcode : X.env.code = .ref c)
    (hg : Gl X "any") (hm : X.mg "any" = none) (hb : bootBuiltins "any" = some (.builtin "any")) (ok : BlkOk X.N X.env.scope scope own) (gok : GenOk scope) (hi : PI X tg iter wi)
    (pg : ∀ (s : Shared) (H : Hp) (C : Addr) (code : Value) (fp : List Addr) (A : Around) (pn : List (Addr × Obj)), PG (gblk X s H (genv X scope C code) fp A pn) tg g)
    (pe : ∀ (s : Shared) (H : Hp) (C : Addr) (code : Value) (fp : List Addr) (A : Around) (pn : List (Addr × Obj)), Room k A → PE (gblk X s H (genv X scope C code) fp A pn) elt te)
    (hs : ∀ v, genFold iter X.env v = pure v)
    (he : starEach [.GeneratorExp elt [⟨tg, iter, [], 0⟩] scope gpos] X.env = (false, eval (.GeneratorExp elt [⟨tg, iter, [], 0⟩] scope gpos) X.env) :: starEach [] X.env := by rfl) :
    PE X (.Call (.Name "any" p) [.GeneratorExp elt [⟨tg, iter, [], 0⟩] scope gpos] [] pos) (tQuant P true wi g te (own.map (·.2))) := by
  refine ⟨fun pins s σ H Q I h => ?_⟩
  refine wpAny_Call_Name_kw (ld_blt I hg hm hb ?_)
  refine PyProof.Rows.callWith_builtin1 ?_ he (by rfl)
  rw [he]
  show wpAny _ _ (spliced ((false, eval (.GeneratorExp elt [⟨tg, iter, [], 0⟩] scope gpos) X.env) :: backTo pos (starEach [] X.env))) _ _ s
  refine Calls.spliced_cons (thn (gen_make hr hc hN TB hcode ok gok.co gok.cell gok.dot hi pg pe hs I h) fun u s6 hM => ?_)
  obtain ⟨a, g', n, Xg, σ', H', rfl, isg, I6, hgo, back⟩ := hM
  refine Calls.spliced_nil ?_
  refine call_function_tree F.kind_any F.plain_any F.entry_any (F.args_any1 _) ?_
  unfold Builtin.«any»
  refine wpAny_bind (m := oneArg "any" _) (wpAny_pure ?_)
  refine wpAny_bind (wpAny_pyIter_gen (isg I6) ?_)
  exact wpAny_pure ⟨plainId_quiet F.plain_any_loop _, any_loop hr.hd hr.depth isg (fun b σ1 H1 s1 J q => ⟨.bl b, H1, back σ1 H1 s1 J, rfl, q⟩) n s6 σ' H' I6 hgo⟩
end
end GA
namespace DW
open PySem PySem.Spec PyProof.Rows L2 GA GxR
theorem stp_tab {F H H' : Hp} {P : Addr} (sb : Sub F H) (t0 : TabG H P) (tb : Tabbed P H H') : Stp F H F H' := by
  obtain ⟨t1, k⟩ := tb
  obtain ⟨ps, e0, _⟩ := id t0
  have nP : ∀ a o, H a = some o → (∀ ps, o ≠ .tbl ps) → a ≠ P := fun a o e n z => by
    rw [z, e0] at e; cases e; exact n _ rfl
  refine ⟨Ex.refl F, ⟨fun a o e n => ?_, sb.nt⟩, fun a o e n => ?_, fun a o e => ?_, fun Q t => ?_, fun _ _ _ n => n⟩
  · have := sb.ex a o e n
    rw [k a (nP a o this n)]; exact this
  · rw [k a (nP a o e n)]; exact e
  · by_cases ha : a = P
    · obtain ⟨ps', e1, _⟩ := t1
      exact ⟨_, by rw [ha]; exact e1⟩
    · exact ⟨o, by rw [k a ha]; exact e⟩
  · by_cases ha : Q = P
    · rw [ha]; exact t1
    · obtain ⟨ps', e1, r⟩ := t
      exact ⟨ps', by rw [k Q ha]; exact e1, r⟩
/-- all (e: false ends it), any (e: true) -/
def quantF (e : Bool) (f : PyData → Bool) (ds : List PyData) : Bool := if ds.any (fun d => decide (f d = e)) then e else !e
theorem quant_any (f : PyData → Bool) (ds : List PyData) : quantF true f ds = ds.any f := by
  unfold quantF
  have : (ds.any fun d => decide (f d = true)) = ds.any f := by congr 1; funext d; cases f d <;> rfl
  rw [this]
  cases h : ds.any f <;> rfl
section
variable {g : Gd} {G : List Sl} {te : TE} {tg : TG} {ds : List PyData} {ix : List Nat}
theorem e_quant {P : Addr} (hP : P ∈ g.T) {wi : TI} {vs : List Nat} {e : Bool} (f : PyData → Bool) (G1 : PyData → List Sl) (it : IT g wi G ds)
    (tgt : ∀ F1, ∀ d ∈ ds, Tg { g with Fl := F1 } tg d (wipeG G vs) (G1 d) ix) (hix : ∀ j ∈ ix, j ∈ vs) (he : ∀ F1, ∀ d ∈ ds, E { g with Fl := F1 } te (G1 d) (.bool (f d))) :
    E g (tQuant P e wi tg te vs) G (.bool (quantF e f ds)) := fun σ F H hh Q q => it σ F H hh _ fun J F1 H1 s1 W => by
  have hh1 := hh.mono s1
  have t1 := hh1.tab P hP
  refine ⟨t1, fun H2 tb => ?_⟩
  have s2 := stp_tab s1.i t1 tb
  have hh2 := hh1.mono s2
  have hw := Holds.wipe hh2 vs
  have hwl : Holds { g with Fl := F1 } (wipeG G vs) (wipe σ vs) F1 H2 := ⟨hw.len, hw.st, hw.sl, hw.apart, hw.tab, Ex.refl F1⟩
  refine ⟨ds.length, fun i H' => i ≤ ds.length ∧ ∃ F', Stp F1 H2 F' H' ∧ Holds { g with Fl := F1 } (wipeG G vs) (wipe σ vs) F' H' ∧ (ds.take i).any (fun d => decide (f d = e)) = false, ⟨Nat.zero_le _, F1, Stp.refl hh2.st.i, hwl, rfl⟩, ?_⟩
  rintro i H3 ⟨hi, F3, s3, hh3, no⟩
  by_cases hlt : i < ds.length
  · have hget := List.getElem?_eq_getElem hlt
    have hmem : ds[i] ∈ ds := List.getElem_mem hlt
    refine .inr ⟨hlt, W.go i F3 H3 hh3.lo hh3.st.i hlt, fun x H4 y => ?_⟩
    obtain ⟨F4, s4, d4⟩ := W.yld i F3 H3 x H4 ds[i] hh3.lo hh3.st.i hget y
    refine tgt F1 ds[i] hmem x (wipe σ vs) F4 H4 (hh3.mono s4) d4 _ fun σ5 hh5 w5 => ⟨?_, ?_⟩
    · rw [w5 vs hix]
      have ww : ∀ (l : List Nat), (∀ j ∈ l, j ∈ vs) → wipe (wipe σ l) vs = wipe σ vs := by
        intro l
        induction l with
        | nil => intro _; rfl
        | cons v l ih => intro hl; show wipe ((wipe σ l).set v none) vs = _; rw [wipe_set (hl v List.mem_cons_self)]; exact ih fun j hj => hl j (List.mem_cons_of_mem _ hj)
      exact ww vs fun _ h => h
    · refine he F1 ds[i] hmem σ5 F4 H4 hh5 _ fun v F5 H5 s5 d5 => ?_
      cases d5
      have ss := s4.trans s5
      refine ⟨f ds[i], rfl, ?_⟩
      by_cases hf : f ds[i] = e
      · refine .inl ⟨hf, ?_⟩
        have : quantF e f ds = e := by unfold quantF; rw [if_pos (List.any_eq_true.mpr ⟨_, hmem, decide_eq_true hf⟩)]
        rw [← this]
        exact q _ F5 H5 ((s1.trans s2).trans (s3.trans ss)) (this ▸ .bl _)
      · refine .inr ⟨hf, hlt, F5, s3.trans ss, hh3.mono ss, ?_⟩
        rw [List.take_succ, hget, List.any_append, no]
        show (false || (decide (f ds[i] = e) || false)) = false
        rw [decide_eq_false hf]; rfl
  · have e2 : i = ds.length := by omega
    subst e2
    refine .inl ⟨rfl, W.stop F3 H3 hh3.lo hh3.st.i, ?_⟩
    rw [List.take_length] at no
    have : quantF e f ds = !e := by unfold quantF; rw [if_neg (by rw [no]; decide)]
    rw [← this]
    exact q _ F3 H3 ((s1.trans s2).trans s3) (.bl _)
end
/-! the code object of a def with a table -/
section
variable {P : Program} {w : World} {K : PySem.W.Frag} {mg : Str → Option Value} {base : Heap} {x qual : Str} {st : Stmt} {f : Addr} {fd : FuncData} {Nn ps : List Str} {k : Nat} {Tb : List Addr} {c Pt : Addr}
theorem code_of (F : Fun K x qual st f fd) (hns : PySem.W.nsIn K mainGlobals x = some (some (.ref f))) (ht : PySem.W.tabIn K x = some (c, Pt)) : fd.code = .ref c := by
  obtain ⟨oc, od, kV, doc, pm, an, cdv, ct, osl, rfl, lk, hcd⟩ := F.ex
  unfold PySem.W.tabIn at ht
  rw [hns] at ht
  simp only [lk] at ht
  split at ht
  · split at ht
    · split at ht
      · cases ht
        first | rfl | assumption
      · cases ht
    · cases ht
  · cases ht
theorem df_DT (F : Fun K x qual st f fd) (hns : PySem.W.nsIn K mainGlobals x = some (some (.ref f))) (ht : PySem.W.tabIn K x = some (c, Pt)) (Sc : FnScope Nn ps (defScope st)) (hm : mg x = some (.ref f)) (hb : Binds K fd ps []) {R : List PyData → PyData → Prop} (hlen : ∀ ds d, R ds d → ds.length = ps.length)
    (body : ∀ (A : Around) (outer : List Env) (s : Shared) (H : Hp) (E : XK), Room k (A.deeper (envOfC qual (defScope st) s.heap.objs.size f (.ref c))) →
      ∃ t, PSs (cxOf CX0 P w K mg base Nn qual (defScope st) f (.ref c) A outer s H E).nox (defBody st) t ∧ ∀ (ds : List PyData) (d : PyData) (F0 H0 : Hp) (Q : VK), R ds d → Rt ⟨K, Tb, F0, H0, F0⟩ Q d → S ⟨K, Tb, F0, H0, F0⟩ t { nx := fun _ H' => Q .non H', rt := Q } (startG Nn.length ds)) :
    Df P w K mg base (k + 1) x ps (spD K Tb R) := by
  have hc := code_of F hns ht
  refine ⟨f, fd, ?_, hm, F.kp, hb⟩
  obtain ⟨oc, od, kV, doc, pm, an, cdv, ct, osl, rfl, lk, hcd⟩ := F.ex
  have hc' : cdv = .ref c := hc
  subst hc'
  refine fn_of lk hcd Sc (fun vs H Q E h => ?_) fun A outer s H vs Q E hr h => ?_
  · obtain ⟨F, ds, d, _, _, hd, r, _⟩ := h
    exact (dps_len hd).trans (hlen ds d r)
  · obtain ⟨F1, ds, d, sb, ht, hd, r, q⟩ := h
    obtain ⟨t, h1, h2⟩ := body A outer s H E hr
    exact ⟨t, h1.nox, h2 ds d F1 H Q r q _ F1 H (holds_start sb ht hd)⟩
end
end DW
namespace LamX
open PySem PySem.Spec PyProof.Rows L2
/-- the end of a row with the tables of its defs -/
theorem walk_ofTop {l : PySem.W.OpenLaw} {n k : Nat} {q : Program} {loose : List Str} {XP : (Str → Option Value) → Heap → Prop} {YP : World → Heap → Prop} {d : DefRec} {K : Params → PySem.W.Frag} {CX : World → CXT} {x : Str}
    (hn : l.most = some n) (hn2 : n ≤ sizeLine) (hdf : d.params.defaults = []) (hr : Room k callerA) (hY : ∀ (w : World) (h : Heap), YP w h → (K w.params).In h)
    (F : ∀ (w : World) (mg : Str → Option Value) (fa : Addr) (h : Heap), YP w h → (K w.params).In h → h.Ns mainGlobals mg → mg d.name = some (.ref fa) →
      (∀ (dd : DefRec) (y : Str) (c P : Addr), (recsOf q).find? (fun e => e.name == y) = some dd → PySem.W.tabIn (K w.params) y = some (c, P) → PySem.W.CodeHd h c P ∧ h.get? P = some (PySem.W.tabObj #[])) → LawAtS l w (K w.params) (CX w) k n x mg fa h)
    (hCX : ∀ (w : World) (H : Hp) (s : Shared) (e : Value) (s' : Shared), CX w [] H s (fun _ _ _ => False) e s' → False) :
    PySem.W.WalkO q loose XP YP l.row.toRowW d [] (fun f vs => PySem.call f vs) := by
  refine Att.attach_callB hn hdf fun w s₀ s₁ mg mb fa o pm cd doc a vs ns G Y ho hd hcd hmg hobj hints hlen hbits hg => ?_
  have KX := hY w _ Y
  obtain ⟨fd, cs, sp, hT, nT, C, hb, hsp, hF⟩ := F w mg fa _ Y KX G.T.g hmg fun dd y c P h1 h2 => PySem.W.tab_of G.T KX h1 h2
  exact law_callTs KX G.T.g G.T.b G.T.builtins G.T.nolimit hg hT nT C G.T.bmain hobj hints (Nat.le_trans hlen hn2) hr hF hb (fun H hH hS => hsp H a ns hlen hbits hH hS) fun H e s' => hCX w H s₁ e s'
end LamX
/-! is True, is not False -/
namespace DW
open PySem PySem.Spec PyProof.Rows L2
def rIsBB : R2 := fun x y H Q => ∃ a b, x = .bl a ∧ y = .bl b ∧ Q (.bl (decide (a = b))) H
def rNtBB : R2 := fun x y H Q => ∃ a b, x = .bl a ∧ y = .bl b ∧ Q (.bl (!decide (a = b))) H
section
variable {g : Gd}
theorem is_bb {a b : Bool} : RB g rIsBB (.bool a) (.bool b) (.bool (decide (a = b))) := fun u v H hu hv Q q => by
  cases hu; cases hv; exact ⟨a, b, rfl, rfl, q _ (.bl _)⟩
theorem nt_bb {a b : Bool} : RB g rNtBB (.bool a) (.bool b) (.bool (!decide (a = b))) := fun u v H hu hv Q q => by
  cases hu; cases hv; exact ⟨a, b, rfl, rfl, q _ (.bl _)⟩
end
end DW
namespace DW
open PySem PySem.Spec PyProof.Rows L2
theorem tab_in {K : PySem.W.Frag} {x : Str} {f c P : Addr} {fd : FuncData} {oc o2 : Value} {od d2 : Option Addr} {sl s2 : Array (Option Value)} {vs : Array Value} (a : PySem.W.nsIn K mainGlobals x = some (some (.ref f))) (l : K.lookup f = some ⟨oc, od, .func fd, sl⟩) (hc : fd.code = .ref c)
    (m : K.lookup c = some ⟨o2, d2, .fields vs, s2⟩) (v : vs[11]? = some (.ref P)) : PySem.W.tabIn K x = some (c, P) := by
  unfold PySem.W.tabIn
  rw [a]
  simp only [l, hc, m, v]
theorem tab_gx {base : Heap} {mg : Str → Option Value} {c P : Addr} (h : LamX.TabB base mg c P) : GxR.TabB base mg c P := ⟨h.code, h.bm, h.gP⟩
end DW
/-! enumerate, zip, is True of any data, isinstance of any data -/
namespace DW
open PySem PySem.Spec PyProof.Rows L2
def enD : Nat → List PyData → List PyData
  | _, [] => []
  | n, d :: ds => .tuple [.int (n : Nat), d] :: enD (n + 1) ds
theorem enD_len : ∀ (n : Nat) (ds : List PyData), (enD n ds).length = ds.length
  | _, [] => rfl
  | n, d :: ds => by show (enD (n + 1) ds).length + 1 = _; rw [enD_len]; rfl
theorem enD_get : ∀ (n : Nat) (ds : List PyData) (i : Nat) (e : PyData), (enD n ds)[i]? = some e → ∃ d, ds[i]? = some d ∧ e = .tuple [.int ((n + i : Nat) : Int), d]
  | _, [], i, e, h => by cases h
  | n, d :: ds, 0, e, h => ⟨d, rfl, (Option.some.inj h).symm⟩
  | n, d :: ds, i + 1, e, h => by
    obtain ⟨x, h1, h2⟩ := enD_get (n + 1) ds i e h
    exact ⟨x, h1, by rw [h2]; congr 3; omega⟩
section
variable {g : Gd} {G : List Sl} {te ta tb : TE} {ds es : List PyData}
theorem it_enum (h : E g te G (.list ds)) : IT g (iEnum g.K (tCons te tNil)) G (enD 0 ds) := fun σ F H hh R r => h σ F H hh _ fun v F1 H1 s1 d1 => by
  obtain ⟨a, vs, rfl, h1, h2⟩ := dp_sq d1
  refine ⟨a, vs, rfl, s1.i.ex.l h1, r _ F1 H1 s1 ⟨fun i F2 H2 e sb hi => ?_, fun F2 H2 e sb => ?_, fun i F2 H2 x H' d e sb hd hy => ?_⟩⟩
  · rw [enD_len] at hi
    have hi' : i < vs.length := by rw [dps_len h2]; exact hi
    exact ⟨vs, vs[i], sb.ex.l (e.l h1), List.getElem?_eq_getElem hi'⟩
  · exact ⟨vs, sb.ex.l (e.l h1), by rw [dps_len h2, enD_len]; exact Nat.le_refl _⟩
  · obtain ⟨T, y, rfl, hT, rfl, q⟩ := hy
    obtain ⟨d', hd', rfl⟩ := enD_get 0 ds i d hd
    obtain ⟨w, e1, e2⟩ := dps_get h2 hd'
    have e3 := q vs (sb.ex.l (e.l h1))
    obtain rfl : w = y := Option.some.inj (e1.symm.trans e3)
    have st := Stp.new (o := .tup [.int ((i : Nat) : Int), w]) sb hT fun _ z => by cases z
    refine ⟨_, st, ?_⟩
    rw [Nat.zero_add]
    exact .tup (.inl (.inl upd_same)) (.cons (.int _) (.cons (st.f.dp _ w (e.dp _ w e2)) .nil))
end
/-! is True, is False of any data -/
end DW
/-! for over our own list that the turns leave alone -/
namespace DW
open PySem PySem.Spec PyProof.Rows L2
end DW
/-! enumerate of a tuple -/
namespace DW
open PySem PySem.Spec PyProof.Rows
open L2
end DW
/-! walks over enumerate(a tuple) and zip of two lists -/
namespace DW
open PySem PySem.Spec PyProof.Rows L2
end DW
/-! min of a list of ints (default=None too), in of any data, list(range(..)), reversed -/
namespace DW
open PySem PySem.Spec PyProof.Rows L2
/-! min(xs) -/
/-! min(xs, default=None) -/
end DW
namespace DW
open PySem PySem.Spec PyProof.Rows L2
/-! reversed of a list or a tuple -/
end DW
/-! == of any data, by plain -/
namespace DW
open PySem PySem.Spec PyProof.Rows L2
/-- no dict in it, not deeper than n -/
structure Pl (n : Nat) (d : PyData) : Prop where
  p : d.plain = true
  d : d.depth ≤ n
structure PlA (n : Nat) (ds : List PyData) : Prop where
  p : PyData.plainAll ds = true
  d : PyData.depthAll ds ≤ n
section
variable {n m : Nat} {d x y : PyData} {ds es : List PyData}
theorem pl_int {i : Int} : Pl n (.int i) := ⟨rfl, Nat.zero_le _⟩
theorem pl_str {s : Str} : Pl n (.str s) := ⟨rfl, Nat.zero_le _⟩
theorem pla_nil : PlA n [] := ⟨rfl, Nat.zero_le _⟩
theorem pla_cons (h : Pl n d) (t : PlA n ds) : PlA n (d :: ds) := ⟨by rw [PyData.plainAll, h.p, t.p]; rfl, Nat.max_le.mpr ⟨h.d, t.d⟩⟩
theorem pl_tup (h : PlA n ds) : Pl (n + 1) (.tuple ds) := ⟨h.p, Nat.succ_le_succ h.d⟩
theorem Pl.mono (h : Pl n d) (l : n ≤ m) : Pl m d := ⟨h.p, Nat.le_trans h.d l⟩
theorem PlA.mono (h : PlA n ds) (l : n ≤ m) : PlA m ds := ⟨h.p, Nat.le_trans h.d l⟩
theorem Pl.refl (h : Pl n d) : PyData.eqv d d = true := SeqAt.eqv_refl_plain d h.p
end
def rEqP (K : PySem.W.Frag) : R2 := fun x y H Q => ∃ d e, Dp K H x d ∧ Dp K H y e ∧ Pl 40 d ∧ Pl 40 e ∧ Q (.bl (PyData.eqv d e)) H
def rNeP (K : PySem.W.Frag) : R2 := fun x y H Q => ∃ d e, Dp K H x d ∧ Dp K H y e ∧ Pl 40 d ∧ Pl 40 e ∧ Q (.bl (!PyData.eqv d e)) H
theorem op_eqP {X : Cx} (hu : X.A.units + 64 < cLine) : OpR X (compareOp .Eq) (rEqP X.K) := by
  intro pins s σ H x y v u Q I rx ry h
  obtain ⟨d, e, hd, he, pd, pe, q⟩ := h
  obtain ⟨as, r1⟩ := Dp.reads I d x v hd rx
  obtain ⟨bs, r2⟩ := Dp.reads I e y u he ry
  have := pd.d
  exact PySem.SeqAt.eq_plain r1 r2 pd.p pe.p (by omega) ⟨.bl _, H, I, rfl, q⟩
theorem op_neP {X : Cx} (hu : X.A.units + 64 < cLine) : OpR X (compareOp .NotEq) (rNeP X.K) := by
  intro pins s σ H x y v u Q I rx ry h
  obtain ⟨d, e, hd, he, pd, pe, q⟩ := h
  obtain ⟨as, r1⟩ := Dp.reads I d x v hd rx
  obtain ⟨bs, r2⟩ := Dp.reads I e y u he ry
  have := pd.d
  exact PySem.SeqAt.ne_plain r1 r2 pd.p pe.p (by omega) ⟨.bl _, H, I, rfl, q⟩
theorem uEqPK {X : Cx} (K : PySem.W.Frag) (hu : X.A.units + 64 < cLine) (h : X.K = K := by rfl) : OpR X (compareOp .Eq) (rEqP K) := h ▸ op_eqP hu
theorem uNePK {X : Cx} (K : PySem.W.Frag) (hu : X.A.units + 64 < cLine) (h : X.K = K := by rfl) : OpR X (compareOp .NotEq) (rNeP K) := h ▸ op_neP hu
section
variable {g : Gd} {x y : PyData}
theorem eqP_d (hx : Pl 40 x) (hy : Pl 40 y) : RB g (rEqP g.K) x y (.bool (PyData.eqv x y)) := fun u v H hu hv Q q => ⟨x, y, hu, hv, hx, hy, q _ (.bl _)⟩
theorem neP_d (hx : Pl 40 x) (hy : Pl 40 y) : RB g (rNeP g.K) x y (.bool (!PyData.eqv x y)) := fun u v H hu hv Q q => ⟨x, y, hu, hv, hx, hy, q _ (.bl _)⟩
theorem eqv_int (a b : Int) : PyData.eqv (.int a) (.int b) = decide (a = b) := by
  show (a == b) = _
  rw [Bool.eq_iff_iff, beq_iff_eq, decide_eq_true_iff]
theorem eqv_str (a b : Str) : PyData.eqv (.str a) (.str b) = decide (a = b) := by
  show (a == b) = _
  rw [Bool.eq_iff_iff, beq_iff_eq, decide_eq_true_iff]
theorem eqP_i {a b : Int} : RB g (rEqP g.K) (.int a) (.int b) (.bool (decide (a = b))) := eqv_int a b ▸ eqP_d pl_int pl_int
theorem neP_i {a b : Int} : RB g (rNeP g.K) (.int a) (.int b) (.bool (!decide (a = b))) := eqv_int a b ▸ neP_d pl_int pl_int
theorem eqP_s {a b : Str} : RB g (rEqP g.K) (.str a) (.str b) (.bool (decide (a = b))) := eqv_str a b ▸ eqP_d pl_str pl_str
end
end DW
/-! sorted of ints, sorted of any alike data -/
namespace DW
open PySem PySem.Spec PyProof.Rows L2
/-! any alike data -/
end DW
/-! comprehensions whose items are known by a property; unpacking of a list; properties -/
namespace DW
open PySem PySem.Spec PyProof.Rows L2
section
variable {g : Gd} {G G' : List Sl} {te : TE} {tgs : TGs} {tg : TG} {tw : TS} {D : Ends} {d : PyData} {ds : List PyData} {ix : List Nat} {P : PyData → Prop} {i : Nat}
/-- item by item -/
def All2 (P : PyData → PyData → Prop) (ds es : List PyData) : Prop := es.length = ds.length ∧ ∀ (i : Nat) (d e : PyData), ds[i]? = some d → es[i]? = some e → P d e
theorem All2.all {P : PyData → PyData → Prop} {ds es : List PyData} {R : PyData → Prop} (h : All2 P ds es) (m : ∀ d e, d ∈ ds → P d e → R e) : ∀ e ∈ es, R e := fun e he => by
  obtain ⟨i, hi⟩ := List.getElem?_of_mem he
  have hl : i < ds.length := by rw [← h.1]; exact (List.getElem?_eq_some_iff.mp hi).1
  exact m ds[i] e (List.getElem_mem hl) (h.2 i _ e (List.getElem?_eq_getElem hl) hi)
end
/-! a text, or None -/
end DW
/-! loops over a list that is known by a property -/
namespace DW
open PySem PySem.Spec PyProof.Rows L2
theorem Wd.mono {K : PySem.W.Frag} {J : It} {ds : List PyData} {F1 F2 : Hp} (W : Wd K J ds F1) (e : Ex F1 F2) : Wd K J ds F2 :=
  ⟨fun i F H x sb hi => W.go i F H (e.trans x) sb hi, fun F H x sb => W.stop F H (e.trans x) sb, fun i F H x H' d y sb hd hy => W.yld i F H x H' d (e.trans y) sb hd hy⟩
end DW
/-! comprehensions with two for; extend -/
namespace DW
open PySem PySem.Spec PyProof.Rows L2
end DW
/-! x = xs.pop()[k], xs[k] = e -/
namespace DW
open PySem PySem.Spec PyProof.Rows L2
end DW
/-! max of a list of ints, math.lcm -/
namespace DW
open PySem PySem.Spec PyProof.Rows L2
end DW
/-! exceptions without fields: raise C('text'), try: return (.., f(..)) except W as e, isinstance(e, C) -/
namespace DW
open PySem PySem.Spec PyProof.Rows L2
end DW
namespace DW
open PySem PySem.Spec PyProof.Rows L2
end DW
/-! own dicts by text keys: d.setdefault(k, v), list(d.items()) -/
namespace DW
open PySem PySem.Spec PyProof.Rows L2
end DW
/-! max of three ints, a, b = x, y, tuple + tuple -/
namespace DW
open PySem PySem.Spec PyProof.Rows L2
section
variable {g : Gd} {G : List Sl} {te tf : TE} {ta : TA} {d x y : PyData} {ds es : List PyData} {i j : Nat} {D : Ends} {tw : TS}
/-- tuple + tuple -/
theorem uCatK {X : Cx} (K : PySem.W.Frag) (h : X.K = K := by rfl) : OpR X (binaryOp .Add) (rCatA K) := h ▸ op_catA
theorem cat_t (h : ds.length + es.length ≤ 100000) : R g (rCatA g.K) (.tuple ds) (.tuple es) (.tuple (ds ++ es)) := fun u v F H e hu hv Q q => by
  obtain ⟨a, vs, rfl, h1, h2⟩ := dp_tq hu
  obtain ⟨b, ws, rfl, h3, h4⟩ := dp_tq hv
  refine ⟨a, b, vs, ws, rfl, rfl, e.ex.t h1, e.ex.t h3, by rw [dps_len h2, dps_len h4]; exact Nat.le_trans h (by decide), fun z => ?_, fun z z2 => ?_, fun z z2 p hp => ?_⟩
  · subst z
    have : ds = [] := by cases h2; rfl
    subst this
    exact q (.ref b) F H (Stp.refl e) hv
  · subst z2
    have : es = [] := by cases h4; rfl
    subst this
    rw [List.append_nil] at q
    exact q (.ref a) F H (Stp.refl e) hu
  · have st := Stp.new (o := .tup (vs ++ ws)) e hp fun _ z => by cases z
    exact q (.ref p) _ _ st (.tup (.inl (.inl upd_same)) (st.f.dps _ _ (dps_app h2 h4)))
end
end DW
/-! dicts keyed by tuples of any depth: {k: v for .. in ..}, k in d, d.get(k, x) -/
namespace DW
open PySem PySem.Spec PyProof.Rows L2
mutual
def nk : PyData → NestedKey
  | .none => .none
  | .bool b => .num (if b = true then 1 else 0)
  | .int i => .num i
  | .str x => .text x
  | .tuple ds => .tup (nks ds)
  | .list _ => .none
  | .dict _ => .none
def nks : List PyData → List NestedKey
  | [] => []
  | d :: ds => nk d :: nks ds
end
mutual
/-- no list, no dict, no truth value -/
def kyD : PyData → Bool
  | .none => true
  | .bool _ => false
  | .int _ => true
  | .str _ => true
  | .tuple ds => kyDs ds
  | .list _ => false
  | .dict _ => false
def kyDs : List PyData → Bool
  | [] => true
  | d :: ds => kyD d && kyDs ds
end
/-! ### the object -/
abbrev NE := NestedKey × Addr × V
def NdRel : List NE → List (NestedKey × Addr × Value) → Prop := Paired fun p q => p.1 = q.1 ∧ p.2.1 = q.2.1 ∧ RelV p.2.2 q.2.2
def ndO (P : Program) (w : World) (D : Addr) (kvs : List NE) : HO := .ext fun h => kvs.length ≤ sizeLine ∧ (D == sysModules) = false ∧ ∃ xs, NdRel kvs xs ∧ ∃ o es ep, h.get? D = some o ∧ o.ExactDict ∧ o.data = .dict es ep ∧ es.toList = xs.map (entryOfKey (nestedKind P w)) ∧ (xs.map (·.1)).Nodup
def atV (kvs : List NE) (k : NestedKey) : Option (Addr × V) := (kvs.find? fun x => decide (x.1 = k)).map (·.2)
def storeV (kvs : List NE) (k : NestedKey) (a : Addr) (v : V) : List NE := if (atV kvs k).isSome = true then kvs.map (fun x => if x.1 = k then (x.1, x.2.1, v) else x) else kvs ++ [(k, a, v)]
def KeyAt (K : PySem.W.Frag) (H : Hp) (k : NestedKey) (a : Addr) : Prop := ∃ d, kyD d = true ∧ nk d = k ∧ k.depth ≤ 8 ∧ Dp K H (.ref a) d
def KeysAt (K : PySem.W.Frag) (H : Hp) (kvs : List NE) : Prop := ∀ p ∈ kvs, KeyAt K H p.1 p.2.1
theorem KeyAt.mono {K : PySem.W.Frag} {F H : Hp} (e : Ex F H) {k : NestedKey} {a : Addr} : KeyAt K F k a → KeyAt K H k a := fun ⟨d, h1, h2, h3, h4⟩ => ⟨d, h1, h2, h3, e.dp d _ h4⟩
/-! ### operators -/
/-! d.get(k, x) -/
end DW
/-! a dict comprehension, whatever its dict is held as -/
namespace DW
open PySem PySem.Spec PyProof.Rows L2
/-! keyed by tuples -/
def stN (P : Program) (w : World) (K : PySem.W.Frag) : Addr → V → V → Hp → (Hp → Prop) → Prop := fun D y z H Nx => ∃ kvs a k, y = .ref a ∧ H D = some (ndO P w D kvs) ∧ kvs.length < sizeLine ∧ KeysAt K H kvs ∧ KeyAt K H k a ∧ Nx (upd H D (ndO P w D (storeV kvs k a z)))
end DW
/-! dicts keyed by tuples, by data -/
namespace DW
open PySem PySem.Spec PyProof.Rows L2
abbrev KD := List (PyData × PyData)
def hasN (kd : KD) (k : PyData) : Bool := kd.any fun p => decide (nk p.1 = nk k)
def getN (kd : KD) (k : PyData) : Option PyData := (kd.find? fun p => decide (nk p.1 = nk k)).map (·.2)
structure NdK (K : PySem.W.Frag) (F : Hp) (p : NE) (q : PyData × PyData) : Prop where
  k : p.1 = nk q.1
  y : kyD q.1 = true
  n : p.1.depth ≤ 8
  a : Dp K F (.ref p.2.1) q.1
  d : Dp K F p.2.2 q.2
def Nd (K : PySem.W.Frag) (F : Hp) : List NE → KD → Prop := Paired (NdK K F)
section
variable {K : PySem.W.Frag} {F H : Hp}
theorem NdK.mono (e : Ex F H) {p : NE} {q : PyData × PyData} (h : NdK K F p q) : NdK K H p q := ⟨h.k, h.y, h.n, e.dp _ _ h.a, e.dp _ _ h.d⟩
theorem Nd.mono (e : Ex F H) {kvs : List NE} {kd : KD} (h : Nd K F kvs kd) : Nd K H kvs kd := Paired.mapP h fun _ _ z => z.mono e
theorem Nd.at_ (k : PyData) : ∀ {kvs : List NE} {kd : KD}, Nd K F kvs kd → (atV kvs (nk k) = none ∧ getN kd k = none ∧ hasN kd k = false) ∨ ∃ a v d, atV kvs (nk k) = some (a, v) ∧ getN kd k = some d ∧ hasN kd k = true ∧ Dp K F v d
  | _, _, .nil => .inl ⟨rfl, rfl, rfl⟩
  | p :: ps, q :: qs, .cons h t => by
    have hk := h.k
    unfold atV getN hasN
    rw [List.find?_cons, List.find?_cons, List.any_cons, hk]
    by_cases e : nk q.1 = nk k
    · rw [decide_eq_true e]
      exact .inr ⟨p.2.1, p.2.2, q.2, rfl, rfl, rfl, h.d⟩
    · rw [decide_eq_false e, Bool.false_or]
      exact Nd.at_ k t
theorem Nd.isSome {k : PyData} {kvs : List NE} {kd : KD} (h : Nd K F kvs kd) : (atV kvs (nk k)).isSome = hasN kd k := by
  rcases h.at_ k with ⟨e1, _, e3⟩ | ⟨_, _, _, e1, _, e3, _⟩ <;> rw [e1, e3] <;> rfl
theorem Nd.app {k : PyData} {a : Addr} {v : V} {d : PyData} (n : NdK K F (nk k, a, v) (k, d)) : ∀ {kvs : List NE} {kd : KD}, Nd K F kvs kd → Nd K F (kvs ++ [(nk k, a, v)]) (kd ++ [(k, d)])
  | _, _, .nil => .cons n .nil
  | _ :: _, _ :: _, .cons h t => .cons h (Nd.app n t)
theorem Nd.len {kvs : List NE} {kd : KD} (h : Nd K F kvs kd) : kvs.length = kd.length := Paired.length h
end
theorem ndO_nt {P : Program} {w : World} {D : Addr} {kvs : List NE} : ∀ ps, ndO P w D kvs ≠ .tbl ps := fun _ z => by unfold ndO at z; cases z
section
variable {P : Program} {w : World} {g : Gd} {G G' : List Sl} {te tk tv tx : TE} {tt : TT} {tg : TG} {tw : TS} {d x k : PyData} {ds : List PyData} {kd : KD} {i j : Nat} {D' : Ends} {ix : List Nat}
/-- a dict of the ground, read only -/
def FactN (P : Program) (w : World) (g : Gd) (D : Addr) (kd : KD) : Prop := ∃ kvs, g.F0 D = some (ndO P w D kvs) ∧ Nd g.K g.F0 kvs kd
theorem FactN.at_ {D : Addr} (f : FactN P w g D kd) {σ : L2.St} {F H : Hp} (hh : Holds g G σ F H) : ∃ kvs, F D = some (ndO P w D kvs) ∧ H D = some (ndO P w D kvs) ∧ Nd g.K F kvs kd := by
  obtain ⟨kvs, h1, h2⟩ := f
  have hF := hh.st.f D _ h1 ndO_nt
  exact ⟨kvs, hF, hh.st.i.ex D _ hF ndO_nt, h2.mono hh.st.f⟩
end
end DW
/-! dicts keyed by tuples: what stands in them -/
namespace DW
open PySem PySem.Spec PyProof.Rows L2
end DW
/-! xs.insert(n, d) on a list of ours; what a dict comprehension holds -/
namespace DW
open PySem PySem.Spec PyProof.Rows L2
end DW
/-! defs that give a tuple of a new list and data: the list is the caller's -/
namespace DW
open PySem PySem.Spec PyProof.Rows L2
/-- what such an answer is: t the tuple, p the list, both new -/
structure TL (K : PySem.W.Frag) (H F' H' : Hp) (t p : Addr) (us : List V) (zv : V) (ls : List PyData) (z : PyData) : Prop where
  ht : H' t = some (.tup [.ref p, zv])
  hp : H' p = some (.lst us)
  nt : H t = none
  np : H p = none
  ft : F' t = none
  fp : F' p = none
  dl : DpAll K F' us ls
  dz : Dp K F' zv z
def ETL (g : Gd) (te : TE) (G : List Sl) (ls : List PyData) (z : PyData) : Prop := ∀ σ F H, Holds g G σ F H → ∀ Q : VK, (∀ t p us zv F' H', Stp F H F' H' → TL g.K H F' H' t p us zv ls z → Q (.ref t) H') → te σ H Q
/-- the answer's objects for good -/
theorem stp_keep {F H H' : Hp} {a : Addr} {o : HO} {F' : Hp} (s : Stp F H F' H') (n : H a = none) (f : F' a = none) (h : H' a = some o) (nt : ∀ ps, o ≠ .tbl ps) : Stp F H (upd F' a o) H' ∧ Ex F' (upd F' a o) := by
  have e : Ex F' (upd F' a o) := fun b u q _ => by rw [upd_ne (ne_of_none q f)]; exact q
  refine ⟨⟨s.f.trans e, ⟨fun b u q m => ?_, fun b ps q => ?_⟩, s.h, s.s, s.t, fun b u q m => ?_⟩, e⟩
  · by_cases hb : b = a
    · subst hb; rw [upd_same] at q; cases q; exact h
    · rw [upd_ne hb] at q; exact s.i.ex b u q m
  · by_cases hb : b = a
    · subst hb; rw [upd_same] at q; exact nt ps (Option.some.inj q)
    · rw [upd_ne hb] at q; exact s.i.nt b ps q
  · rw [upd_ne (ne_of_none q n)]; exact s.n b u q m
theorem TL.keep {K : PySem.W.Frag} {F H F' H' : Hp} {t p : Addr} {us : List V} {zv : V} {ls : List PyData} {z : PyData} (s : Stp F H F' H') (x : TL K H F' H' t p us zv ls z) : ∃ F2, Stp F H F2 H' ∧ Ex F' F2 ∧ Dp K F2 (.ref t) (.tuple [.list ls, z]) := by
  have ne : t ≠ p := fun e => by have := x.ht; rw [e, x.hp] at this; cases this
  obtain ⟨s1, e1⟩ := stp_keep s x.np x.fp x.hp fun _ z => by cases z
  obtain ⟨s2, e2⟩ := stp_keep s1 x.nt (by rw [upd_ne ne]; exact x.ft) x.ht fun _ z => by cases z
  refine ⟨_, s2, e1.trans e2, .tup (.inl (.inl upd_same)) (.cons ?_ (.cons ((e1.trans e2).dp _ _ x.dz) .nil))⟩
  exact .lst (.inl (.inl (by rw [upd_ne ne.symm, upd_same]))) ((e1.trans e2).dps _ _ x.dl)
section
variable {g : Gd} {G : List Sl} {te tb : TE} {ta : TA} {tt : TT} {tu tw : TS} {d z : PyData} {ds ls : List PyData} {i j : Nat} {D : Ends}
theorem ETL.e (h : ETL g te G ls z) : E g te G (.tuple [.list ls, z]) := fun σ F H hh Q q => h σ F H hh _ fun t p us zv F1 H1 s1 x => by
  obtain ⟨F2, s2, _, d⟩ := x.keep s1
  exact q _ F2 H1 s2 d
end
end DW
/-! own dicts keyed by tuples: {}, d[k], d[k] = v, d.get(k), in, len; < of alike data; max(.., default=i) -/
namespace DW
open PySem PySem.Spec PyProof.Rows L2
/-! ### rules -/
/-! ### < of alike data -/
/-! ### max(a list of ints, default=k) -/
/-! ### by data -/
section
variable {P : Program} {w : World} {g : Gd} {G G' : List Sl} {te tk tv tx ta : TE} {tw : TS} {d x y k : PyData} {kd : KD} {i j : Nat} {D : Ends} {C C' : Addr → Hp → HO → Prop}
theorem Holds.obMut {σ : L2.St} {F H : Hp} {p : Addr} {u u' : HO} (hh : Holds g G σ F H) (h : G[i]? = some (.ob C)) (e : σ[i]? = some (some (.ref p))) (h0 : g.H0 p = none) (hF : F p = none) (hH : H p = some u) (nt : ∀ ps, u ≠ .tbl ps) (nt' : ∀ ps, u' ≠ .tbl ps) (hC : ∀ F', Ex F F' → C' p F' u') : Holds g (G.set i (.ob C')) σ F (upd H p u') := by
  have hi : i < σ.length := (List.getElem?_eq_some_iff.mp e).1
  have same : σ.set i (some (.ref p)) = σ := List.ext_getElem? fun j => by
    by_cases hj : i = j
    · subst hj; rw [List.getElem?_set_self hi, e]
    · rw [List.getElem?_set_ne hj]
  have lose : Holds g (G.set i .un) σ F H := hh.weak (by rw [List.length_set]) fun j s ej => by
    by_cases hj : i = j
    · subst hj; rw [List.getElem?_set_self (by rw [← hh.len]; exact hi)] at ej; cases ej; exact .inl rfl
    · rw [List.getElem?_set_ne hj] at ej; exact .inr ej
  have other : ∀ (j : Nat) (t : Sl), j ≠ i → G[j]? = some t → t.mine = true → σ[j]? ≠ some (some (.ref p)) := fun j t hj ej m z => hj (hh.apart j i t (.ob C) p ej h m rfl z e)
  have chg := lose.mut (o2 := u') h0 hF hH nt fun j t ej m => by
    by_cases hj : i = j
    · subst hj; rw [List.getElem?_set_self (by rw [← hh.len]; exact hi)] at ej; cases ej; cases m
    · rw [List.getElem?_set_ne hj] at ej; exact other j t (Ne.symm hj) ej m
  have fin := chg.set (i := i) (v := .ref p) (s := .ob C') ⟨p, u', rfl, h0, hF, upd_same, nt', hC⟩ fun _ j t hj ej m => by
    rw [List.getElem?_set_ne (Ne.symm hj)] at ej; exact other j t hj ej m
  rw [List.set_set, same] at fin
  exact fin
end
end DW
/-! sorted of alike tuples, empty ones among them -/
namespace DW
open PySem PySem.Spec PySem.W PySem.SeqAt PyProof.Rows
end DW
namespace DW
open PySem PySem.Spec PyProof.Rows L2
end DW
/-! texts: ' '.join(..), f'..', str(x), int(a truth value) -/
namespace DW
open PySem PySem.Spec PyProof.Rows L2
abbrev tS (i : Int) : Str := toString i
def rStrU : List V → Hp → VK → Prop := fun xs H Q => (∃ a, xs = [.str a] ∧ Q (.str a) H) ∨ ∃ i, xs = [.int i] ∧ i.natAbs.log2 < 1920 ∧ Q (.str (tS i)) H
theorem uStr {X : Cx} : CallR X (.type "str") rStrU := fun pins s σ H xs us Q I vs h => by
  rcases h with h | h
  · exact SkE.call_str_str pins s σ H xs us Q I vs h
  · exact call_str_int pins s σ H xs us Q I vs h
theorem str_i {i : Int} {g : Gd} (h : i.natAbs.log2 < 1920) : C1 g rStrU [.int i] (.str (tS i)) := fun vs H hv Q q => by
  obtain ⟨v, rfl, hw⟩ := ab_one hv
  cases hw
  exact .inr ⟨i, rfl, h, q _ (.str _)⟩
theorem dps_vstrs {K : PySem.W.Frag} {F : Hp} : ∀ {vs : List V} {ys : List Str}, DpAll K F vs (ys.map .str) → vs = ys.map V.str
  | _, [], .nil => rfl
  | _, y :: ys, .cons h t => by
    cases h
    rw [dps_vstrs (ys := ys) t]; rfl
/-- sep.join(texts) -/
def rJoin (K : PySem.W.Frag) : V → List V → Hp → VK → Prop := fun x xs H Q => ∃ a p, ∃ ys : List Str, x = .str a ∧ xs = [.ref p] ∧ (SqL K H p (ys.map V.str) ∨ SqT K H p (ys.map V.str)) ∧ (ys.map (·.length)).sum + ys.length * a.length ≤ 16777216 ∧ Q (.str (Txt.join a ys)) H
theorem pe_joinK {X : Cx} {o e : Expr} {to te : TE} (K : PySem.W.Frag) {apos pos : Pos} (ho : PE X o to) (he : PE X e te) (h : X.K = K := by rfl) (hs : starEach [e] X.env = [(false, eval e X.env)] := by rfl) (hbase : attributeBase o "join" X.env (eval o X.env) = eval o X.env := by rfl) (hline : (apos.endLine == pos.line) = true := by rfl) :
    PE X (.Call (.Attribute o "join" apos) [e] [] pos) (tM1 (rJoin K) to te) := h ▸ pe_join ho he hs hbase hline
def sumL (ys : List Str) : Nat := (ys.map (·.length)).sum
theorem sumL_le {B : Nat} : ∀ {ys : List Str}, (∀ y ∈ ys, y.length ≤ B) → sumL ys ≤ ys.length * B
  | [], _ => Nat.zero_le _
  | y :: ys, h => by
    have ih := sumL_le (ys := ys) fun z hz => h z (List.mem_cons_of_mem _ hz)
    have h0 := h y List.mem_cons_self
    show y.length + sumL ys ≤ (ys.length + 1) * B
    rw [Nat.add_mul, Nat.one_mul]
    omega
section
variable {g : Gd} {G : List Sl} {te to : TE} {ys : List Str} {a : Str} {i : Int}
theorem e_joinL (ho : E g to G (.str a)) (h : B g te G (.list (ys.map .str))) (hz : sumL ys + ys.length * a.length ≤ 16777216) : E g (tM1 (rJoin g.K) to te) G (.str (Txt.join a ys)) := fun σ F H hh Q q => ho σ F H hh _ fun u F1 H1 s1 d1 => by
  cases d1
  refine ⟨⟨a, rfl⟩, h σ F1 H1 (hh.mono s1) _ fun v F2 H2 s2 d2 => ?_⟩
  obtain ⟨p, vs, rfl, h1, h2⟩ := dp_sq d2
  have e := dps_vstrs h2
  subst e
  exact ⟨a, p, ys, rfl, rfl, .inl h1, hz, q _ F2 H2 (s1.trans s2) (.str _)⟩
theorem app_len (a b : Str) : (a ++ b).length = a.length + b.length := Array.size_append
end
theorem tS_len {i : Int} (h : i.natAbs.log2 < 1920) : (tS i).length ≤ 1921 := int_text_len_1921 h
theorem log_fit {i : Int} (h1 : -10000000000000000 ≤ i) (h2 : i ≤ 10000000000000000) : i.natAbs.log2 < 1920 := by
  have hb : i.natAbs < 2 ^ 1920 := Nat.lt_of_lt_of_le (show i.natAbs < 2 ^ 60 by omega) (Nat.pow_le_pow_right (by decide) (by decide))
  by_cases h0 : i.natAbs = 0
  · rw [h0]; decide
  · exact (Nat.log2_lt h0).mpr hb
end DW
/-! own exceptions whose __init__(self, x) keeps one field: the def of __init__, raise C(e), try: y = f(..) / except C as e, e.f, isinstance(e, C2) -/
namespace DW
open PySem PySem.Spec PyProof.Rows L2
/-- what the text says of an own class with __init__(self, x): self.f = x -/
structure XiOk (P : Program) (w : World) (K : PySem.W.Frag) (mg : Str → Option Value) (base : Heap) (x : Str) (C : Addr) (f : Str) : Prop where
  gC : mg x = some (.ref C)
  T : OexC K C
  noF : PySem.W.findIn K (.ref C) f = some none
  ini : ∃ (fI : Addr) (fd : FuncData) (ps : List Str), PySem.W.findIn K (.ref C) "__init__" = some (some (.ref fI)) ∧ PySem.W.typeIn K (.ref fI) = some (.type "function") ∧ FnOk P w K mg base CX0 1 fI fd ps (spI1 C f) ∧ Binds K fd ps []
section
variable {P : Program} {w : World} {K : PySem.W.Frag} {mg : Str → Option Value} {base : Heap} {C : Addr} {f x qual p : Str} {st : Stmt} {fI : Addr} {fd : FuncData}
/-- the def of __init__ -/
theorem init_ok (F : Fun K "__init__" qual st fI fd) (Sc : FnScope ["self", p] ["self", p] (defScope st)) (hC : OexC K C) (hf : PySem.W.findIn K (.ref C) f = some none)
    (body : ∀ (cdv : Value) (A : Around) (outer : List Env) (s : Shared) (H : Hp) (E : XK), PSs (cxOf CX0 P w K mg base ["self", p] qual (defScope st) fI cdv A outer s H E).nox (defBody st) (tOst K f (tVar 0) (tVar 1))) :
    FnOk P w K mg base CX0 1 fI fd ["self", p] (spI1 C f) :=
  F.ok Sc (fun vs H Q E h => by obtain ⟨a, v, rfl, _⟩ := h; rfl) fun cdv A outer s H vs Q E hr h => ⟨_, body cdv A outer s H E, init1_t (n1 := "self") (n2 := p) (Ek := E) hC hf h⟩
end
/-- raise C(e) -/
theorem ps_raiseI {X : Cx} {x f : Str} {C : Addr} {e : Expr} {ta : TA} {k : Nat} {p pos pos2 : Pos} {W : WX} (hc : X.calm = true) (T : XiOk X.prog X.w X.K X.mg X.base x C f) (hr : Room k X.A) (hk : 2 ≤ k) (tk : Takes X W) (hg : Gl X x) (ha : PA X (e :: []) ta) (hdb : (x == ("__debug__" : Str)) = false := by decide)
    (he : starEach (e :: []) X.env = (false, eval e X.env) :: starEach [] X.env := by rfl) (hpl : (backTo pos (starEach [] X.env)).any (·.1) = false := by rfl) :
    PS X (.Raise (some (.Call (.Name x p) (e :: []) [] pos)) none pos2) (fun _ σ H => tMkO C (spI1 C f) [] ta σ H fun cls d H' => W cls d σ H') := by
  obtain ⟨fI, fd, ps, iC, tI, F1, hb⟩ := T.ini
  exact ps_raise hc tk (pmk_oex (CX := CX0) T.T iC tI F1 (hr.mono hk) hb .nil (fun _ _ _ _ _ _ _ z => z.elim) hg T.gC ha hdb he hpl)
/-- f(..), f a def that may raise -/
theorem pe_dfX {X : Cx} {k j : Nat} {x : Str} {ps : List Str} {sp : Sp} {e : Expr} {es : List Expr} {t : TA} {p pos : Pos} {W : WX} (D : DfX X.prog X.w X.K X.mg X.base j x ps sp) (hr : Room k X.A) (hj : j ≤ k) (hg : Gl X x) (tk : Takes X W) (ha : PA X (e :: es) t) (hdb : (x == ("__debug__" : Str)) = false := by decide)
    (he : starEach (e :: es) X.env = (false, eval e X.env) :: starEach es X.env := by rfl) (hpl : (backTo pos (starEach es X.env)).any (·.1) = false := by rfl) : PE X (.Call (.Name x p) (e :: es) [] pos) (tCallS sp (WE W) t) := by
  obtain ⟨f, fd, F, hm, hk, hb⟩ := D.ex
  exact pe_callS F (hr.mono hj) hg hm hk hb (fun σ => passAt tk σ) ha hdb he hpl
end DW
namespace DW
open PySem PySem.Spec PyProof.Rows L2
end DW
/-! sorted(d.items()), d an own dict by text keys -/
namespace DW
open PySem PySem.Spec PyProof.Rows L2
end DW
namespace DW
open PySem PySem.Spec PyProof.Rows L2
end DW
namespace DW
open PySem PySem.Spec PyProof.Rows L2
/-- k in d, d an own dict by text keys -/
theorem t_din {g : Gd} {G : List Sl} {kvs : List (Str × PyData)} {i : Nat} {ty : TE} {k : Str} (h : (G[i]?).bind Sl.kv = some kvs) (hk : E g ty G (.str k)) : T g (tB (tDIn ty (tVar i))) G (getK kvs k).isSome := fun σ F H hh Q q => hk σ F H hh _ fun u F1 H1 s1 d1 => by
  cases d1
  obtain ⟨p, vs, ev, hr, hv⟩ := dict_at (hh.mono s1) h
  refine ⟨.ref p, ev, p, valV vs (Sum.inr k : Key), rfl, .inl ⟨vs, .inr k, hr, rfl, rfl⟩, (getK kvs k).isSome, ?_, q F1 H1 s1⟩
  cases e : getK kvs k with
  | none => rw [(kv_get hv).2 e]; rfl
  | some d =>
    obtain ⟨v, e1, e2⟩ := (kv_get hv).1 d e
    rw [e1]; rfl
end DW
/-! own dicts keyed by tuples: d.setdefault(k, v), sorted(d) -/
namespace DW
open PySem PySem.Spec PyProof.Rows L2
end DW
namespace DW
open PySem PySem.Spec PyProof.Rows L2
end DW
/-! expressions that change one own slot: d.setdefault(k, v) inside a test, a tuple, a comprehension -/
namespace DW
open PySem PySem.Spec PyProof.Rows L2
structure Stq (σ : L2.St) (i : Nat) (F H F' H' : Hp) : Prop where
  f : Ex F F'
  fr : ∀ a o, H a = some o → (∀ ps, o ≠ .tbl ps) → σ[i]? ≠ some (some (V.ref a)) → H' a = some o
  s : ∀ a o, H a = some o → ∃ o', H' a = some o'
  n : ∀ a o, H a = some o → F a = none → F' a = none
section
variable {σ : L2.St} {i : Nat} {F H F1 H1 F2 H2 : Hp}
theorem Stp.q (s : Stp F H F1 H1) : Stq σ i F H F1 H1 := ⟨s.f, fun a o e n _ => s.h a o e n, s.s, s.n⟩
theorem Stq.trans (a : Stq σ i F H F1 H1) (b : Stq σ i F1 H1 F2 H2) : Stq σ i F H F2 H2 :=
  ⟨a.f.trans b.f, fun x o e n q => b.fr x o (a.fr x o e n q) n q, fun x o e => let ⟨o', e'⟩ := a.s x o e; b.s x o' e', fun x o e n => let ⟨o', e'⟩ := a.s x o e; b.n x o' e' (a.n x o e n)⟩
end
/-- te gives d for good and turns slot i into s' -/
def EG (g : Gd) (i : Nat) (te : TE) (G : List Sl) (s' : Sl) (d : PyData) : Prop := ∀ σ F H, Holds g G σ F H → ∀ Q : VK, (∀ v F' H', Stq σ i F H F' H' → Holds g (G.set i s') σ F' H' → Dp g.K F' v d → Q v H') → te σ H Q
def TGi (g : Gd) (i : Nat) (tt : TT) (G : List Sl) (s' : Sl) (b : Bool) : Prop := ∀ σ F H, Holds g G σ F H → ∀ Q : Bool → Hp → Prop, (∀ F' H', Stq σ i F H F' H' → Holds g (G.set i s') σ F' H' → Q b H') → tt σ H Q
def AG (g : Gd) (i : Nat) (ta : TA) (G : List Sl) (s' : Sl) (ds : List PyData) : Prop := ∀ σ F H, Holds g G σ F H → ∀ Q : List V → Hp → Prop, (∀ vs F' H', Stq σ i F H F' H' → Holds g (G.set i s') σ F' H' → DpAll g.K F' vs ds → Q vs H') → ta σ H Q
section
variable {P : Program} {w : World} {g : Gd} {G : List Sl} {te tk tv ta tb : TE} {tt : TT} {tu tw : TS} {d x y k : PyData} {ds : List PyData} {kd : KD} {i j : Nat} {D : Ends} {s' : Sl} {b : Bool}
theorem s_ifG (h : TGi g i tt G s' b) (h1 : b = true → S g tu D (G.set i s')) (h2 : b = false → S g tw D (G.set i s')) : S g (tIfS tt tu tw) D G := fun σ F H hh => h σ F H hh _ fun F1 H1 s1 hh1 => by
  cases b with
  | true => exact h1 rfl σ F1 H1 hh1
  | false => exact h2 rfl σ F1 H1 hh1
theorem ag_cons {tr : TA} (h : E g te G d) (hr : AG g i tr G s' ds) : AG g i (tCons te tr) G s' (d :: ds) := fun σ F H hh Q q =>
  h σ F H hh _ fun v F1 H1 s1 d1 => hr σ F1 H1 (hh.mono s1) _ fun vs F2 H2 s2 hh2 d2 => q (v :: vs) F2 H2 (s1.q.trans s2) hh2 (.cons (s2.f.dp d v d1) d2)
theorem ag_last {tr : TA} (h : EG g i te G s' d) (hr : A g tr (G.set i s') ds) : AG g i (tCons te tr) G s' (d :: ds) := fun σ F H hh Q q =>
  h σ F H hh _ fun v F1 H1 s1 hh1 d1 => hr σ F1 H1 hh1 _ fun vs F2 H2 s2 d2 => q (v :: vs) F2 H2 (s1.trans s2.q) (hh1.mono s2) (.cons (s2.f.dp d v d1) d2)
/-- a new list that no slot holds stays for good -/
theorem Holds.frzNew {σ : L2.St} {F H : Hp} {p : Addr} {vs : List V} (hh : Holds g G σ F H) (h0 : g.H0 p = none) (hF : F p = none) (hH : H p = some (.lst vs)) (new : ∀ (j : Nat) (t : Sl), G[j]? = some t → t.mine = true → σ[j]? ≠ some (some (.ref p))) : Holds g G σ (upd F p (.lst vs)) H := by
  have ex : Ex F (upd F p (.lst vs)) := fun a u q _ => by rw [upd_ne (ne_of_none q hF)]; exact q
  refine ⟨hh.len, ⟨hh.st.f.trans ex, ⟨fun a u q n => ?_, fun a ps q => ?_⟩, hh.st.h, hh.st.s, hh.st.t, fun a u q n => ?_⟩, fun j s o e1 e2 => ?_, hh.apart, hh.tab, hh.lo.trans ex⟩
  · by_cases ha : a = p
    · subst ha; rw [upd_same] at q; cases q; exact hH
    · rw [upd_ne ha] at q; exact hh.st.i.ex a u q n
  · by_cases ha : a = p
    · subst ha; rw [upd_same] at q; cases q
    · rw [upd_ne ha] at q; exact hh.st.i.nt a ps q
  · rw [upd_ne (ne_of_none q h0)]; exact hh.st.n a u q n
  · have q := hh.sl j s o e1 e2
    cases s with
    | un => trivial
    | fz d => obtain ⟨v, ev, hv⟩ := q; exact ⟨v, ev, ex.dp d v hv⟩
    | raw v => exact q
    | ow es =>
      obtain ⟨r, ws, er, q0, qF, qH, qd⟩ := q
      subst er
      refine ⟨r, ws, rfl, q0, ?_, qH, ex.dps es ws qd⟩
      rw [upd_ne (fun z => new j _ e1 rfl (by rw [e2, z]))]; exact qF
    | od es =>
      obtain ⟨r, ws, er, q0, qF, qH, qd⟩ := q
      subst er
      refine ⟨r, ws, rfl, q0, ?_, qH, qd.mono ex⟩
      rw [upd_ne (fun z => new j _ e1 rfl (by rw [e2, z]))]; exact qF
    | fk es =>
      obtain ⟨r, ws, er, hr, qd⟩ := q
      exact ⟨r, ws, er, ex.rd hr (fun _ z => by cases z), qd.mono ex⟩
    | ob C =>
      obtain ⟨r, u, er, q0, qF, qH, qn, qC⟩ := q
      subst er
      refine ⟨r, u, rfl, q0, ?_, qH, qn, fun F2 e2 => qC F2 (ex.trans e2)⟩
      rw [upd_ne (fun z => new j _ e1 rfl (by rw [e2, z]))]; exact qF
end
end DW
/-! xs[::-1] -/
namespace DW
open PySem PySem.Spec PyProof.Rows L2
end DW
/-! {text: v for ..} as an own dict, list(d) of a dict by text keys -/
namespace DW
open PySem PySem.Spec PyProof.Rows L2
def EOD (g : Gd) (te : TE) (G : List Sl) (kvs : List (Str × PyData)) : Prop := ∀ σ F H, Holds g G σ F H → ∀ Q : VK, (∀ D vs F' H', Stp F H F' H' → H D = none → F' D = none → H' D = some (.dK vs) → KvOk g.K F' vs kvs → Q (.ref D) H') → te σ H Q
end DW
namespace DW
open PySem PySem.Spec PyProof.Rows L2
end DW
/-! xs.extend(a tuple); loops and comprehensions over a call that raises; try .. except C: without a name -/
namespace DW
open PySem PySem.Spec PyProof.Rows L2
end DW
/-! sorted(set(xs)), xs a list of whole numbers -/
namespace DW
open PySem PySem.Spec PyProof.Rows L2
end DW
/-! xs.count(x) over data; a loop with facts of the heap beside the slots -/
namespace DW
open PySem PySem.Spec PyProof.Rows L2
def rCount (K : PySem.W.Frag) : V → List V → Hp → VK → Prop := fun x vs H Q => ∃ l u xs d, x = .ref l ∧ vs = [u] ∧ Dp K H x (.list xs) ∧ Dp K H u d ∧ PyData.plainAll xs = true ∧ d.plain = true ∧ PyData.depthAll xs ≤ 50 ∧ Q (.int ((xs.countP fun y => PyData.eqv y d : Nat) : Int)) H
theorem mt_count {X : Cx} (hu : X.A.units + 64 < cLine) : MtM X "list.count" (rCount X.K) := by
  intro pins s σ H x vs v us Q I rx rv h
  obtain ⟨l, u, xs, d, rfl, rfl, hy, hx, p1, p2, dp, q⟩ := h
  cases rx
  obtain ⟨z, rfl, ru⟩ := rv.one
  obtain ⟨as, r1⟩ := Dp.reads I d u z hx ru
  obtain ⟨bs, r2⟩ := Dp.reads I _ (.ref l) (.ref l) hy rfl
  cases r2 with
  | list h1 h2 h3 h4 => exact PySem.SeqAt.count_list_data ⟨_, h1, h2, _, h3⟩ h4 r1 p1 p2 (by omega) ⟨.int _, H, I.tok _, ⟨_, rfl⟩, q⟩
theorem mt_countK {X : Cx} (K : PySem.W.Frag) (hu : X.A.units + 64 < cLine) (h : X.K = K := by rfl) : MtM X "list.count" (rCount K) := h ▸ mt_count hu
section
variable {g : Gd} {G : List Sl} {te ta : TE} {tg : TG} {tu : TS} {D : Ends} {d : PyData} {ds : List PyData}
theorem e_count (hb : B g ta G (.list ds)) (he : E g te G d) (p1 : PyData.plainAll ds = true) (p2 : d.plain = true) (dp : PyData.depthAll ds ≤ 50) : E g (tBM g.K "list" (rCount g.K) ta (tCons te tNil)) G (.int ((ds.countP fun y => PyData.eqv y d : Nat) : Int)) := fun σ F H hh Q q => hb σ F H hh _ fun v F1 H1 s1 d1 => by
  obtain ⟨a, vs, rfl, h1, h2⟩ := dp_sq d1
  refine ⟨.inl ⟨rfl, vs, h1⟩, he σ F1 H1 (hh.mono s1) _ fun u F2 H2 s2 d2 => ?_⟩
  exact ⟨a, u, ds, d, rfl, rfl, s2.h.dp _ _ d1, s2.i.ex.dp _ _ d2, p1, p2, dp, q _ F2 H2 (s1.trans s2) (.int _)⟩
end
end DW
/-! d.setdefault(k, []).append(x): an own dict by tuples whose values are own lists -/
namespace DW
open PySem PySem.Spec PyProof.Rows L2
abbrev GL := List (PyData × List PyData)
structure GdK (K : PySem.W.Frag) (H0 F H : Hp) (p : NE) (q : PyData × List PyData) : Prop where
  k : p.1 = nk q.1
  y : kyD q.1 = true
  n : (nk q.1).depth ≤ 8
  a : Dp K F (.ref p.2.1) q.1
  v : ∃ b us, p.2.2 = .ref b ∧ H0 b = none ∧ F b = none ∧ H b = some (.lst us) ∧ DpAll K F us q.2
abbrev GdR (K : PySem.W.Frag) (H0 F H : Hp) : List NE → GL → Prop := Paired (GdK K H0 F H)
def vAd (p : NE) : V := p.2.2
structure OpD (P : Program) (w : World) (K : PySem.W.Frag) (H0 : Hp) (D : Addr) (gs : GL) (F H : Hp) : Prop where
  ex : ∃ kvs, H0 D = none ∧ F D = none ∧ H D = some (ndO P w D kvs) ∧ GdR K H0 F H kvs gs ∧ (kvs.map vAd).Nodup ∧ (kvs.map (·.1)).Nodup
section
variable {P : Program} {w : World} {K : PySem.W.Frag} {H0 F H F' H' : Hp} {D : Addr}
theorem GdK.mono (s : Stp F H F' H') {p : NE} {q : PyData × List PyData} (h : GdK K H0 F H p q) : GdK K H0 F' H' p q := by
  obtain ⟨b, us, e, h0, hF, hH, d⟩ := h.v
  exact ⟨h.k, h.y, h.n, s.f.dp _ _ h.a, b, us, e, h0, s.n b _ hH hF, s.h.lst hH, s.f.dps _ _ d⟩
theorem OpD.mono (gs : GL) (F H F' H' : Hp) (s : Stp F H F' H') (h : OpD P w K H0 D gs F H) : OpD P w K H0 D gs F' H' := by
  obtain ⟨kvs, h0, hF, hH, r, nd⟩ := h.ex
  exact ⟨kvs, h0, s.n D _ hH hF, s.h D _ hH ndO_nt, Paired.mapP r fun _ _ z => z.mono s, nd⟩
end
def NoMine (G : List Sl) : Prop := ∀ (j : Nat) (t : Sl), G[j]? = some t → t.mine = false
theorem NoMine.new {G : List Sl} {σ : L2.St} (h : NoMine G) {p : Addr} : ∀ (j : Nat) (t : Sl), G[j]? = some t → t.mine = true → σ[j]? ≠ some (some (V.ref p)) := fun j t e m => by rw [h j t e] at m; cases m
end DW
/-! sorted(d) of a dict by tuples, an empty tuple among its keys; sum of a list of ints -/
namespace DW
open PySem PySem.Spec PySem.W PySem.SeqAt PyProof.Rows
end DW
namespace DW
open PySem PySem.Spec PyProof.Rows L2
end DW
/-! a module's constant tuple of texts -/
namespace DW
open PySem PySem.Spec PyProof.Rows L2
/-- what the text says of a module's name that stands for a tuple of texts -/
structure TcOk (K : PySem.W.Frag) (mg : Str → Option Value) (x : Str) (p : Addr) (ss : List Str) : Prop where
  gC : mg x = some (.ref p)
  sq : ∃ (o : Obj) (its : Array Value) (n : Nat), K.lookup p = some o ∧ o.cls = .type "tuple" ∧ o.data = .seq its n ∧ its.size ≤ sizeLine ∧ Vals (ss.map V.str) its.toList
theorem TcOk.c {K : PySem.W.Frag} {mg : Str → Option Value} {x : Str} {p : Addr} {ss : List Str} (T : TcOk K mg x p ss) : ∃ u, mg x = some u ∧ RelV (.ref p) u := ⟨_, T.gC, rfl⟩
theorem dpa_strs {K : PySem.W.Frag} {F : Hp} : ∀ ss : List Str, DpAll K F (ss.map V.str) (ss.map PyData.str)
  | [] => .nil
  | s :: ss => .cons (.str s) (dpa_strs ss)
theorem e_tc {g : Gd} {G : List Sl} {mg : Str → Option Value} {x : Str} {p : Addr} {ss : List Str} (T : TcOk g.K mg x p ss) : E g (tC (.ref p)) G (.tuple (ss.map PyData.str)) := fun _ F H hh _ q => q _ F H (Stp.refl hh.st.i) (.tup (.inr T.sq) (dpa_strs ss))
end DW
/-! xs[lo:hi:step] of a list -/
namespace DW
open PySem PySem.Spec PyProof.Rows L2
end DW
namespace DW
open PySem PySem.Spec PyProof.Rows L2
end DW
/-! comprehensions over a list of things of any kind, told by an injective coding -/
namespace DW
open PySem PySem.Spec PyProof.Rows L2
end DW
/-! any/all over things told by an injective coding; the end of a recursion that gives a new list -/
namespace DW
open PySem PySem.Spec PyProof.Rows L2 GA
end DW
/-! a, b, c = x, y, z -/
namespace DW
open PySem PySem.Spec PyProof.Rows L2
end DW
/-! range(i, j, c) as a value: len, walks over it -/
namespace DW
open PySem PySem.Spec PyProof.Rows L2
end DW
/-! sorted(set(xs)), xs a list of texts -/
namespace DW
open PySem PySem.Spec PyProof.Rows L2
/-- the set of the texts l at a -/
def TxS (P : Program) (w : World) (h : Heap) (a : Addr) (l : List Str) : Prop := ∃ D : Froz.SD, h.get? a = some (Froz.sObj "set" D) ∧ Froz.TxOk P w D l ∧ Ris D.2.2.place.toList ∧ (w.params.followText "set-order" = true ∨ D.2.2.led = true) ∧ l.Nodup
section
variable {P : Program} {w : World} {A : Around} {E : Value → Shared → Prop} {s : Shared} {h h' : Heap} {a : Addr} {l : List Str}
theorem TxS.at (R : TxS P w h a l) (k : ∀ o, h.get? a = some o → h'.get? a = some o) : TxS P w h' a l := by
  obtain ⟨D, ho, r⟩ := R
  exact ⟨D, k _ ho, r⟩
end
end DW
/-! d.get(k, x) of a written dict; xs[i:] = [..] -/
namespace DW
open PySem PySem.Spec PyProof.Rows L2
/-- p is a written dict with text keys -/
def KdO (K : PySem.W.Frag) (w : World) (p : Addr) : Prop := ∃ es n, K.lookup p = some ⟨.type "dict", none, .dict es n, #[]⟩ ∧ PySem.W.KeysLit w.params es.toList ∧ (p == sysModules) = false
def tKGet2 (K : PySem.W.Frag) (w : World) (td ty tx : TE) : TE := fun σ H Q => td σ H fun x H1 => ∃ p, x = .ref p ∧ KdO K w p ∧ ty σ H1 fun y H2 => tx σ H2 fun z H3 => ∃ k, y = .str k ∧ ((∃ u v, PySem.W.nsIn K p k = some (some u) ∧ RelV v u ∧ Q v H3) ∨ (PySem.W.nsIn K p k = some none ∧ Q z H3))
theorem pe_kget2 {X : Cx} {o e f : Expr} {apos cpos : Pos} {td ty tx : TE} (ho : PE X o td) (he : PE X e ty) (hf : PE X f tx) (m : M2 X o "get" apos e f cpos) : PE X (.Call (.Attribute o "get" apos) [e, f] [] cpos) (tKGet2 X.K X.w td ty tx) := by
  refine ⟨fun pins s σ H Q I h => ?_⟩
  refine wpAny_Call_method m.base m.few m.line PySem.F.plainAttrs_dict PySem.F.slot_dict_get PySem.F.type_dict_get (thn (ho.run pins s σ H _ I h) fun u s1 ⟨x, H1, I1, rx, p, ex, ⟨es, n, hl, hk, low⟩, q1⟩ => ?_)
  subst ex
  obtain rfl : u = Value.ref p := rx
  have hm := PySem.W.mapOf_K (prog := X.prog) (w := X.w) I1.kIn hl hk
  refine ⟨hm.typeIs, fun b q => ?_, ?_⟩
  · cases q
    exact ⟨_, I1.kIn _ _ hl, rfl⟩
  rw [m.trees]
  refine Calls.callWith_builtin rfl (Calls.evalArgs_plain (Calls.spliced_cons (thn (he.run pins s1 σ H1 _ I1 q1) fun iv s2 ⟨y, H2, I2, ry, q2⟩ =>
    Calls.spliced_cons (thn (hf.run pins s2 σ H2 _ I2 q2) fun fv s3 ⟨z, H3, I3, rz, k, ey, q3⟩ => Calls.spliced_nil ?_))))
  subst ey
  obtain ⟨t, rfl⟩ : ∃ t, iv = Value.str k t := ry
  have hm3 := PySem.W.mapOf_K (prog := X.prog) (w := X.w) I3.kIn hl hk
  refine call_meetsIn PySem.F.slot_dict_get hm3.typeIs PySem.F.entry_dict_get (PySem.F.args_dict_get_3 _ _ _) (meets_dict_get_default (PySem.strKind X.prog X.w) p (strKind_is X.prog X.w k t) low fv) ⟨_, hm3, ?_⟩
  rcases q3 with ⟨u0, v0, e0, r0, q⟩ | ⟨e0, q⟩
  · rw [PySem.W.find_K hl e0]
    exact ⟨v0, H3, I3.tok _, r0, q⟩
  · rw [PySem.W.find_K hl e0]
    exact ⟨z, H3, I3.tok _, rz, q⟩
section
variable {prog : Program} {w : World} {A : Around} {E : Value → Shared → Prop} {s : Shared}
theorem bounds_tail {a n : Nat} (ha : a ≤ n) : sliceBounds (some (a : Int)) none none n = ((a : Int), (n : Int), 1) := by
  simp only [sliceBounds, Option.getD_none]
  have h1 : ¬ ((a : Int) < 0) := by omega
  simp only [h1, if_false, show (1 : Int) > 0 by decide, if_true]
  congr 1
  omega
/-- the tail of a list is laid anew -/
theorem setItem_tail {l b sl : Addr} {items new : Array Value} {n n2 : Nat} {vl : Value} {a : Nat} {Q : Unit → Shared → Prop}
    (e : s.heap.get? l = some { cls := .type "list", data := .seq items n }) (e2 : s.heap.get? b = some { cls := .type "list", data := .seq new n2 }) (hne : l ≠ b)
    (hs : s.heap.IsSliceOf sl vl .none .none) (pl : IsPart vl (some (a : Int))) (ha : a ≤ items.size)
    (hsz : items.size + new.size ≤ sizeLine) (h : Q () { s with heap := s.heap.update l (Obj.mapSeq fun xs => xs.extract 0 a ++ new ++ xs.extract items.size xs.size) }) :
    wpAny (model prog w) A (setItem (.ref l) (.ref sl) (.ref b)) Q E s := by
  have il : s.heap.IsList l items := PySem.IsL.isList e
  have ib : s.heap.IsList b new := PySem.IsL.isList e2
  obtain ⟨os, o1, o2, o3⟩ := id hs
  have ts : s.TypeIs (.ref sl) "slice" := ⟨os, o1, o2⟩
  have apart : Builtin.List.listSameRef (.ref l) (.ref b) = false := by
    unfold Builtin.List.listSameRef
    exact beq_eq_false_iff_ne.mpr hne
  have one : ¬ ((rawPart none == rawInt 0) = true) := Bool.false_ne_true
  have top : (max (a : Int) (items.size : Int)).toNat = items.size := by omega
  have fits : ((fun xs : Array Value => xs.extract 0 a ++ new ++ xs.extract items.size xs.size) items).size ≤ sizeLine + 1 := by
    simp only [Array.size_append, Array.size_extract]
    omega
  unfold setItem
  try with_reducible refine wpAny_holding ?_
  first | refine wpAny_bind (wpAny_pure ?_) | skip
  refine wpAny_bind (wpAny_sequenceKey il.typeIs (by decide) ?_)
  refine wpAny_bind (wpAny_callSpecial?_slot (name := Str.ofString "__setitem__") il.typeIs slot_list_setitem (wpAny_call_entry slot_list_setitem il.typeIs entry_list_setitem ?_ (args_list_setitem _ _ _)))
  show wpAny _ _ (Builtin.List.listSubscript? (.ref sl) >>= _) _ _ s
  refine wpAny_bind ?_
  unfold Builtin.List.listSubscript?
  refine wpAny_bind (wpAny_specialOf ts slice_no_index ?_)
  simp only [Option.isNone_none, if_true]
  refine wpAny_pure ?_
  show wpAny _ _ (typeOf (.ref sl) >>= _) _ _ s
  refine wpAny_bind (wpAny_typeOf ts ?_)
  first
    | rw [if_neg (by decide)]
    | refine PySem.W.KFB.if_not (by decide) ?_
  rw [listSliceParts_eq]
  refine wpAny_bind (wpAny_bind (wpAny_field o1 o3 (x := .none) rfl (wpAny_bind (wpAny_listPart .none ?_))))
  rw [if_neg one]
  refine wpAny_bind (wpAny_field o1 o3 (x := vl) rfl (wpAny_bind (wpAny_listPart pl ?_)))
  refine wpAny_bind (wpAny_field o1 o3 (x := .none) rfl (wpAny_bind (wpAny_listPart .none (wpAny_pure ?_))))
  first
    | simp only [apart, Bool.false_eq_true, if_false]
    | refine PySem.W.KFB.if_not apart ?_
    | (dsimp only
       rw [if_neg (by rw [apart]; exact Bool.false_ne_true)])
  refine wpAny_bind (m := Builtin.List.listAllItems (.ref b) "must assign iterable to extended slice") ?_
  unfold Builtin.List.listAllItems
  refine wpAny_bind (wpAny_typeOf ib.typeIs ?_)
  first
    | refine PySem.W.KFB.if_so (by decide) ?_
    | rw [if_pos (by decide)]
    | simp only [beq_self_eq_true, Bool.true_or, if_true]
  unfold Builtin.List.listItems
  refine wpAny_bind (wpAny_seqItems e2 rfl (wpAny_pure ?_))
  refine wpAny_bind (wpAny_bind (wpAny_seqItems e rfl (wpAny_pure ?_)))
  refine wpAny_bind (wpAny_of_eq ((sliceIndices_raw (some (a : Int)) none none items.size (by simp)).trans (congrArg (pure : Int × Int × Int → Sem (Int × Int × Int)) (bounds_tail ha))) ?_)
  show wpAny _ _ (if ((1 : Int) == 1) = true then _ else _) _ _ s
  rw [if_pos (by decide)]
  refine wpAny_bind (wpAny_rule ?_)
  first
    | simp only [notLongL hsz, Bool.false_eq_true, if_false]
    | refine PySem.W.KFB.if_not (notLongL hsz) ?_
  first | refine wpAny_bind (wpAny_pure ?_) | skip
  show wpAny _ _ (updateSeq l (fun xs => xs.extract 0 ((a : Int)).toNat ++ new ++ xs.extract (max (a : Int) (items.size : Int)).toNat xs.size) >>= _) _ _ s
  rw [top, Int.toNat_natCast]
  refine wpAny_bind (wpAny_updateSeq (hz := Nat.le_trans (Nat.le_add_right _ _) hsz) (_hz' := fits) e rfl ?_)
  refine wpAny_bind (wpAny_letGo ?_)
  first
    | exact wpAny_bind (wpAny_pure (wpAny_pure ⟨.none, rfl, wpAny_pure h⟩))
    | exact wpAny_pure ⟨.none, rfl, wpAny_pure h⟩
end
/-- o[i:] = v -/
def gTail (to : TE) (tl : TO) : TG := fun v σ H Q => to σ H fun x H1 => tl σ H1 fun o H2 => ∃ (l b : Addr) (xs ys : List V) (i : Int), x = .ref l ∧ o = some i ∧ v = .ref b ∧ H2 l = some (.lst xs) ∧ H2 b = some (.lst ys) ∧ l ≠ b ∧ 0 ≤ i ∧ i ≤ xs.length ∧ xs.length + ys.length ≤ sizeLine ∧ Q σ (upd H2 l (.lst (xs.take i.toNat ++ ys)))
theorem pg_tail {X : Cx} {o : Expr} {lo : Option Expr} {to : TE} {tl : TO} {p2 pos : Pos} (ho : PE X o to) (hl : PO X lo tl)
    (ha : ∀ v, assign (.Subscript o (.Slice lo none none p2) pos) X.env v = (do
      let ov ← holding [v] (eval o X.env)
      let iv ← holding [v, ov] (eval (.Slice lo none none p2) X.env)
      standAt pos
      holding [v, ov, iv] (setItem ov iv v)
      release [iv, v, ov] []) := by intro _; rfl) : PG X (.Subscript o (.Slice lo none none p2) pos) (gTail to tl) := by
  refine ⟨fun pins s σ H v u Q I r h => ?_⟩
  rw [ha]
  refine wpAny_bind (wpAny_holding (thn (ho.run pins s σ H _ I h) fun ov s1 ⟨x, H1, I1, r1, q1⟩ => ?_))
  refine wpAny_bind (wpAny_holding ?_)
  refine wpAny_Slice (thn (hl.run pins s1 σ H1 _ I1 q1) fun vl s2 ⟨lo', H2, I2, pl, q2⟩ => thn (po_none.run pins s2 σ H2 (fun o H' => o = none ∧ H' = H2) I2 ⟨rfl, rfl⟩) fun vu s3 ⟨uo, H3, I3, pu, eu, eH⟩ => ?_)
  subst eu eH
  cases pu
  rw [evalPart_none]
  refine wpAny_pure ?_
  obtain ⟨l, b, xs, ys, i, ex, eo, ev, hH, hB, hne, h0, hi, hz, q⟩ := q2
  subst ex eo ev
  cases r
  obtain rfl : ov = Value.ref l := r1
  have I4 : Inv X pins σ H3 { s3 with heap := s3.heap.push { cls := .type "slice", data := .fields #[vl, .none, .none] } } := I3.kept (t' := s3.toks) fun b ob q => Heap.get?_push_of_some _ q
  obtain ⟨z, its, n, r, hl, e⟩ := I4.lstM hH
  obtain ⟨z2, its2, n2, r2, hl2, e2⟩ := I4.lstM hB
  obtain ⟨a, rfl⟩ := Int.eq_ofNat_of_zero_le h0
  simp only [Int.toNat_natCast] at q
  refine wpAny_bind (wpAny_standAt (wpAny_bind (wpAny_holding ?_)))
  refine setItem_tail (s := { s3 with heap := s3.heap.push { cls := .type "slice", data := .fields #[vl, .none, .none] } }) (a := a) e e2 hne (Heap.IsSliceOf.new ..) pl (by rw [List.size_toArray]; omega) (by rw [List.size_toArray, List.size_toArray]; omega) (wpAny_release ⟨σ, _, ?_, q⟩)
  refine I4.lset (its' := its.take a ++ its2) (t' := s3.toks) hH e ?_ (Vals.append (r.take _) r2) ?_
  · show its.toArray.extract 0 a ++ its2.toArray ++ its.toArray.extract its.toArray.size its.toArray.size = (its.take a ++ its2).toArray
    rw [splice_eq, List.size_toArray, List.drop_length, List.append_nil]
  · rw [List.length_append, List.length_take]; omega
section
variable {w : World} {g : Gd} {G : List Sl} {te tl tk tx te1 te2 te3 : TE} {tw : TS} {d x d1 d2 d3 : PyData} {ds es : List PyData} {i : Nat} {k : Int} {D : Ends}
/-- a written dict's value, or the other one -/
theorem e_kget {p : Addr} {s : Str} (kd : KdO g.K w p) (h : E g tk G (.str s)) (hx : E g tx G x) (hv : (∃ (t : Tok) (n : Int), PySem.W.nsIn g.K p s = some (some (.int n t)) ∧ d = .int n) ∨ (PySem.W.nsIn g.K p s = some none ∧ d = x)) : E g (tKGet2 g.K w (tC (.ref p)) tk tx) G d := fun σ F H hh Q q =>
  ⟨p, rfl, kd, h σ F H hh _ fun v F1 H1 s1 c1 => hx σ F1 H1 (hh.mono s1) _ fun z F2 H2 s2 c2 => by
    cases c1
    refine ⟨s, rfl, ?_⟩
    rcases hv with ⟨t, n, e, rfl⟩ | ⟨e, rfl⟩
    · exact .inl ⟨_, .int n, e, ⟨t, rfl⟩, q _ F2 H2 (s1.trans s2) (.int n)⟩
    · exact .inr ⟨e, q _ F2 H2 (s1.trans s2) c2⟩⟩
/-- xs[lo:hi], xs ours -/
theorem el_slO {to tp : TO} {lo hi : Option Int} (h : G[i]? = some (.ow ds)) (hl : O g to G lo) (hu : O g tp G hi) : EL g (tSl (rSlU g.K) (tVar i) to tp) G (cutD ds lo hi) := fun σ F H hh Q q => by
  obtain ⟨o, e, p, vs, ev, h0, hF, hH, hd⟩ := hh.at_ h
  subst ev
  refine ⟨.ref p, e, hl σ F H hh _ fun F2 H2 s2 => hu σ F2 H2 (hh.mono s2) _ fun F3 H3 s3 => ?_⟩
  have ss := s2.trans s3
  exact .inl ⟨p, vs, rfl, .inl (.inl (ss.h.lst hH)), fun b hb => q b _ F3 _ (ss.trans (Stp.mine ((hh.mono ss).st.i) hb)) (old_free ss hb) ((hh.mono ss).st.i.free hb) upd_same (cut_dps (ss.f.dps ds vs hd))⟩
/-- xs[k:] = ys -/
theorem s_tail (h : G[i]? = some (.ow ds)) (he : EL g te G es) (hl : E g tl G (.int k)) (h0 : 0 ≤ k) (hk : k ≤ ds.length) (hz : ds.length + es.length ≤ 100000) (kk : N g D.nx (G.set i (.ow (ds.take k.toNat ++ es)))) : S g (tAsg te (gTail (tVar i) (tPart tl))) D G := fun σ F H hh => he σ F H hh _ fun b ws F1 H1 s1 hb hFb hHb d1 => by
  obtain ⟨o, e, p, vs, ev, h00, hF, hH, hd⟩ := hh.at_ h
  subst ev
  refine ⟨.ref p, e, hl σ F1 H1 (hh.mono s1) _ fun v F2 H2 s2 d2 => ?_⟩
  cases d2
  have ss := s1.trans s2
  have ne : p ≠ b := fun z => by rw [z, hb] at hH; cases hH
  have lv := dps_len hd
  have lw := dps_len d1
  refine ⟨k, rfl, p, b, vs, ws, k, rfl, rfl, rfl, ss.h.lst hH, s2.h.lst hHb, ne, h0, by omega, Nat.le_trans (by omega : _ ≤ 100000) (by decide), ?_⟩
  exact kk σ F2 _ (own_set hh h e h00 hF hH ss (dps_app (dps_take _ (ss.f.dps ds vs hd)) (s2.f.dps es ws d1)))
end
end DW
/-! arguments that are no data: objects of own classes, functions; answers that are objects -/
namespace DW
open PySem PySem.Spec PyProof.Rows L2
/-- the object at a: its class C, its fields by data -/
def ObF (K : PySem.W.Frag) (F : Hp) (a C : Addr) (fs : List (Str × PyData)) : Prop := ∃ dx ws, F a = some (.ins C dx ws) ∧ F dx = some (.own a) ∧ FsOk K F ws fs
theorem ObF.mono {K : PySem.W.Frag} {F F' : Hp} {a C : Addr} {fs : List (Str × PyData)} (h : ObF K F a C fs) (e : Ex F F') : ObF K F' a C fs := by
  obtain ⟨dx, ws, h1, h2, h3⟩ := h
  exact ⟨dx, ws, e a _ h1 (fun _ z => by cases z), e dx _ h2 (fun _ z => by cases z), h3.mono e⟩
/-- values by slots -/
inductive ByS (K : PySem.W.Frag) (F : Hp) : List V → List Sl → Prop where
  | nil : ByS K F [] []
  | fz {v : V} {d : PyData} {vs : List V} {Gs : List Sl} (h : Dp K F v d) (t : ByS K F vs Gs) : ByS K F (v :: vs) (.fz d :: Gs)
  | raw {v : V} {vs : List V} {Gs : List Sl} (t : ByS K F vs Gs) : ByS K F (v :: vs) (.raw v :: Gs)
theorem ByS.len {K : PySem.W.Frag} {F : Hp} : ∀ {vs : List V} {Gs : List Sl}, ByS K F vs Gs → vs.length = Gs.length
  | _, _, .nil => rfl
  | _, _, .fz _ t => by rw [List.length_cons, List.length_cons, t.len]
  | _, _, .raw t => by rw [List.length_cons, List.length_cons, t.len]
theorem ByS.mono {K : PySem.W.Frag} {F F' : Hp} (e : Ex F F') : ∀ {vs : List V} {Gs : List Sl}, ByS K F vs Gs → ByS K F' vs Gs
  | _, _, .nil => .nil
  | _, _, .fz h t => .fz (e.dp _ _ h) (t.mono e)
  | _, _, .raw t => .raw (t.mono e)
theorem ByS.get {K : PySem.W.Frag} {H0 F H : Hp} : ∀ {vs : List V} {Gs : List Sl} {j : Nat} {s : Sl}, ByS K F vs Gs → Gs[j]? = some s → s.mine = false ∧ ∃ v, vs[j]? = some v ∧ SlOk K H0 F H (some v) s
  | _, _, _, _, .nil, e => by cases e
  | _, _, 0, _, .fz h _, e => by cases e; exact ⟨rfl, _, rfl, _, rfl, h⟩
  | _, _, 0, _, .raw _, e => by cases e; exact ⟨rfl, _, rfl, rfl⟩
  | _, _, j + 1, s, .fz _ t, e => t.get (j := j) (by simpa using e)
  | _, _, j + 1, s, .raw t, e => t.get (j := j) (by simpa using e)
def startS (n : Nat) (Gs : List Sl) : List Sl := Gs ++ List.replicate (n - Gs.length) .un
theorem holds_startS {K : PySem.W.Frag} {Tb : List Addr} {F H : Hp} {vs : List V} {Gs : List Sl} {Nn : List Str} (sb : Sub F H) (ht : ∀ P ∈ Tb, GxR.TabG H P) (hd : ByS K F vs Gs) : Holds ⟨K, Tb, F, H, F⟩ (startS Nn.length Gs) (L2.start Nn vs) F H := by
  have hl := hd.len
  have get : ∀ (j : Nat) (s : Sl), (startS Nn.length Gs)[j]? = some s → s = .un ∨ Gs[j]? = some s := fun j s e => by
    unfold startS at e
    rcases Nat.lt_or_ge j Gs.length with hj | hj
    · rw [List.getElem?_append_left hj] at e; exact .inr e
    · rw [List.getElem?_append_right hj, List.getElem?_replicate] at e
      split at e
      · cases e; exact .inl rfl
      · cases e
  refine ⟨by unfold L2.start startS; rw [List.length_append, List.length_append, List.length_map, List.length_replicate, List.length_replicate, hl], Stp.refl sb, fun j s o e1 e2 => ?_, fun j k s t p e1 _ m1 _ _ _ => ?_, ht, Ex.refl F⟩
  · rcases get j s e1 with rfl | h
    · trivial
    · obtain ⟨_, v, h2, h3⟩ := hd.get (H0 := H) (H := H) h
      unfold L2.start at e2
      have hj : j < vs.length := (List.getElem?_eq_some_iff.mp h2).1
      rw [List.getElem?_append_left (by rw [List.length_map]; exact hj), List.getElem?_map, h2] at e2
      cases e2
      exact h3
  · rcases get j s e1 with rfl | h
    · cases m1
    · rw [(hd.get (H0 := H) (H := H) h).1] at m1; cases m1
/-- arguments by slots -/
def AS (g : Gd) (ta : TA) (G Gs : List Sl) : Prop := ∀ σ F H, Holds g G σ F H → ∀ Q : List V → Hp → Prop, (∀ vs F' H', Stp F H F' H' → ByS g.K F' vs Gs → Q vs H') → ta σ H Q
end DW
/-! __init__ of an own class: self.f = x, self.f = list(x) -/
namespace DW
open PySem PySem.Spec PyProof.Rows L2
/-- the object at a is being made: (F, H2) stood before it -/
structure Ini (K : PySem.W.Frag) (C : Addr) (F H2 : Hp) (a dx : Addr) (F1 H1 : Hp) (fs : List (Str × PyData)) : Prop where
  st : Stp F H2 F1 H1
  a0 : H2 a = none
  fa : F1 a = none
  own : F1 dx = some (.own a)
  ha : ∃ ws, H1 a = some (.ins C dx ws) ∧ FsOk K F1 ws fs
section
variable {K : PySem.W.Frag} {C : Addr} {F H2 F1 H1 F3 H3 : Hp} {a dx : Addr} {fs : List (Str × PyData)} {f : Str} {y : V} {d : PyData}
theorem Ini.more (h : Ini K C F H2 a dx F1 H1 fs) (s : Stp F1 H1 F3 H3) : Ini K C F H2 a dx F3 H3 fs := by
  obtain ⟨ws, e1, e2⟩ := h.ha
  exact ⟨h.st.trans s, h.a0, s.n a _ e1 h.fa, s.f dx _ h.own (fun _ z => by cases z), ws, s.h a _ e1 (fun _ z => by cases z), e2.mono s.f⟩
theorem Ini.obj (h : Ini K C F H2 a dx F1 H1 fs) : ∃ F3, Stp F H2 F3 H1 ∧ ObF K F3 a C fs := by
  obtain ⟨ws, e1, e2⟩ := h.ha
  have ne : ∀ {b : Addr} {u : HO}, F1 b = some u → b ≠ a := fun {b u} e z => by rw [z, h.fa] at e; cases e
  have ex : Ex F1 (upd F1 a (.ins C dx ws)) := fun b u q n => by rw [upd_ne (ne q)]; exact q
  refine ⟨upd F1 a (.ins C dx ws), ⟨h.st.f.trans ex, ⟨fun b u q n => ?_, fun b ps q => ?_⟩, h.st.h, h.st.s, h.st.t, fun b u q n => ?_⟩, dx, ws, upd_same, by rw [upd_ne (ne h.own)]; exact h.own, e2.mono ex⟩
  · by_cases hb : b = a
    · subst hb; rw [upd_same] at q; cases q; exact e1
    · rw [upd_ne hb] at q; exact h.st.i.ex b u q n
  · by_cases hb : b = a
    · subst hb; rw [upd_same] at q; cases q
    · rw [upd_ne hb] at q; exact h.st.i.nt b ps q
  · rw [upd_ne (fun z => by rw [z, h.a0] at q; cases q)]; exact h.st.n b u q n
variable {σ : L2.St} {t tw : TS} {D : Ends} {j : Nat} {v : V} {ds : List PyData}
end
end DW
/-! & >> << of ints, ord -/
namespace DW
open PySem PySem.Spec PyProof.Rows L2
end DW
/-! a def handed as an argument: its name as a value (pe_fv), a call of the slot that holds it (e_callA) -/
namespace DW
open PySem PySem.Spec PyProof.Rows L2
end DW
/-! a tuple of defs: handed as an argument (e_callST), walked by a for (s_forR, q_forR) -/
namespace DW
open PySem PySem.Spec PyProof.Rows L2
end DW
/-! a tuple of unlike defs: each called by the slot that holds it -/
namespace DW
open PySem PySem.Spec PyProof.Rows L2
end DW
/-! own exceptions whose __init__(self, x, y) keeps two fields -/
namespace DW
open PySem PySem.Spec PyProof.Rows L2
structure XiOk2 (P : Program) (w : World) (K : PySem.W.Frag) (mg : Str → Option Value) (base : Heap) (x : Str) (C : Addr) (f h : Str) : Prop where
  gC : mg x = some (.ref C)
  T : OexC K C
  noF : PySem.W.findIn K (.ref C) f = some none
  noH : PySem.W.findIn K (.ref C) h = some none
  ini : ∃ (fI : Addr) (fd : FuncData) (ps : List Str), PySem.W.findIn K (.ref C) "__init__" = some (some (.ref fI)) ∧ PySem.W.typeIn K (.ref fI) = some (.type "function") ∧ FnOk P w K mg base CX0 1 fI fd ps (spI2 C f h) ∧ Binds K fd ps []
section
variable {P : Program} {w : World} {K : PySem.W.Frag} {mg : Str → Option Value} {base : Heap} {C : Addr} {f h x qual p q : Str} {st : Stmt} {fI : Addr} {fd : FuncData}
theorem init_ok2 (F : Fun K "__init__" qual st fI fd) (Sc : FnScope ["self", p, q] ["self", p, q] (defScope st)) (hC : OexC K C) (hf : PySem.W.findIn K (.ref C) f = some none) (hh : PySem.W.findIn K (.ref C) h = some none)
    (body : ∀ (cdv : Value) (A : Around) (outer : List Env) (s : Shared) (H : Hp) (E : XK), PSs (cxOf CX0 P w K mg base ["self", p, q] qual (defScope st) fI cdv A outer s H E).nox (defBody st) (tSeq (tOst K f (tVar 0) (tVar 1)) (tOst K h (tVar 0) (tVar 2)))) :
    FnOk P w K mg base CX0 1 fI fd ["self", p, q] (spI2 C f h) :=
  F.ok Sc (fun vs H Q E z => by obtain ⟨a, v, u, rfl, _⟩ := z; rfl) fun cdv A outer s H vs Q E hr z => ⟨_, body cdv A outer s H E, init2_t (n1 := "self") (n2 := p) (n3 := q) (Ek := E) hC hf hh z⟩
end
theorem ps_raiseI2 {X : Cx} {x f h : Str} {C : Addr} {e e2 : Expr} {ta : TA} {k : Nat} {p pos pos2 : Pos} {W : WX} (hc : X.calm = true) (T : XiOk2 X.prog X.w X.K X.mg X.base x C f h) (hr : Room k X.A) (hk : 2 ≤ k) (tk : Takes X W) (hg : Gl X x) (ha : PA X (e :: [e2]) ta) (hdb : (x == ("__debug__" : Str)) = false := by decide)
    (he : starEach (e :: [e2]) X.env = (false, eval e X.env) :: starEach [e2] X.env := by rfl) (hpl : (backTo pos (starEach [e2] X.env)).any (·.1) = false := by rfl) :
    PS X (.Raise (some (.Call (.Name x p) (e :: [e2]) [] pos)) none pos2) (fun _ σ H => tMkO C (spI2 C f h) [] ta σ H fun cls d H' => W cls d σ H') := by
  obtain ⟨fI, fd, ps, iC, tI, F1, hb⟩ := T.ini
  exact ps_raise hc tk (pmk_oex (CX := CX0) T.T iC tI F1 (hr.mono hk) hb .nil (fun _ _ _ _ _ _ _ z => z.elim) hg T.gC ha hdb he hpl)
theorem xi_names2 {X : Cx} {x f h : Str} {C : Addr} (T : XiOk2 X.prog X.w X.K X.mg X.base x C f h) (hg : Gl X x) (hd : (x == ("__debug__" : Str)) = false := by decide) : Names X x (.ref C) := ⟨hg, hd, .inl T.gC⟩
/-- int of a text of one digit -/
def rIntS : List V → Hp → VK → Prop := fun xs H Q => ∃ a n, xs = [.str a] ∧ PySem.intText? a = some n ∧ a.length ≤ 640 ∧ Q (.int n) H
theorem uIntS {X : Cx} : CallR X (.type "int") rIntS := call_int_str
theorem dig_val : ∀ c ∈ ("0123456789" : Str).cps.toList, PySem.intText? ⟨#[c]⟩ = some ((c : Int) - 48) := by decide +kernel
theorem int_dg {g : Gd} {c : Nat} (h : c ∈ ("0123456789" : Str).cps.toList) : C1 g rIntS [.str ⟨#[c]⟩] (.int ((c : Int) - 48)) := fun vs H hd Q q => by
  cases hd with
  | cons a t => cases t; cases a; exact ⟨_, _, rfl, dig_val c h, by show 1 ≤ 640; decide, q _ (.int _)⟩
end DW
/-! for with break: a turn knows that the good part has grown, so that what stands behind the loop can be done at the break -/
namespace DW
open PySem PySem.Spec PyProof.Rows L2
end DW
/-! own objects whose fields change: slot .ob (insC ..), e.f, e.f = x, methods that change self (spM, eg_meth) -/
namespace DW
open PySem PySem.Spec PyProof.Rows L2
/-- the own object a: class C, its dict dx, its fields by data -/
def insC (K : PySem.W.Frag) (a C dx : Addr) (fs : List (Str × PyData)) : Addr → Hp → HO → Prop := fun p F u => p = a ∧ ∃ ws, u = .ins C dx ws ∧ FsOk K F ws fs
def ptFd : Str → PyData → List (Str × PyData) → List (Str × PyData)
  | n, d, [] => [(n, d)]
  | n, d, (m, x) :: fs => if m = n then (m, d) :: fs else (m, x) :: ptFd n d fs
section
variable {g : Gd} {G : List Sl} {σ : L2.St} {F H : Hp} {i : Nat} {a C dx : Addr} {fs fs' : List (Str × PyData)} {n : Str} {d : PyData} {te : TE} {D : Ends} {tw : TS}
theorem ins_own (hh : Holds g G σ F H) (h : G[i]? = some (.ob (insC g.K a C dx fs))) : ∃ ws, σ[i]? = some (some (.ref a)) ∧ g.H0 a = none ∧ F a = none ∧ H a = some (.ins C dx ws) ∧ FsOk g.K F ws fs := by
  obtain ⟨o, eo, p, u, rfl, h0, hF, hH, nt, c⟩ := hh.at_ h
  obtain ⟨rfl, ws, rfl, f⟩ := c F (Ex.refl F)
  exact ⟨ws, eo, h0, hF, hH, f⟩
theorem fs_none : ∀ {K : PySem.W.Frag} {F : Hp} {ws : List (Str × V)} {fs : List (Str × PyData)}, FsOk K F ws fs → fs.lookup n = none → ws.lookup n = none
  | _, _, [], [], _, _ => rfl
  | _, _, [], _ :: _, h, _ => by cases h.ns
  | _, _, _ :: _, [], h, _ => by cases h.ns
  | K, F, (m, v) :: ws, (m', x) :: fs, h, e => by
    have e1 := h.ns
    rw [List.map_cons, List.map_cons] at e1
    injection e1 with e1 e2
    have e1 : m = m' := e1
    subst e1
    cases h.ds with
    | cons c t =>
      rw [List.lookup_cons] at e ⊢
      cases q : n == m with
      | true => rw [q] at e; cases e
      | false => rw [q] at e; exact fs_none ⟨e2, t⟩ e
theorem fs_put {v : V} : ∀ {K : PySem.W.Frag} {F : Hp} {ws : List (Str × V)} {fs : List (Str × PyData)}, FsOk K F ws fs → Dp K F v d → FsOk K F (putF n v ws) (ptFd n d fs)
  | _, _, [], [], _, hd => ⟨rfl, .cons hd .nil⟩
  | _, _, [], _ :: _, h, _ => by cases h.ns
  | _, _, _ :: _, [], h, _ => by cases h.ns
  | K, F, (m, u) :: ws, (m', x) :: fs, h, hd => by
    have e1 := h.ns
    rw [List.map_cons, List.map_cons] at e1
    injection e1 with e1 e2
    have e1 : m = m' := e1
    subst e1
    cases h.ds with
    | cons c t =>
      have ih := fs_put (K := K) (F := F) (ws := ws) (fs := fs) (v := v) ⟨e2, t⟩ hd
      by_cases hm : m = n
      · have ep : putF n v ((m, u) :: ws) = (m, v) :: ws := by first | (show (if m = n then _ else _) = _; rw [if_pos hm]) | (show (if (m == n) = true then _ else _) = _; rw [if_pos (by rw [hm]; exact beq_self_eq_true n)]) | (simp [putF, hm])
        have ed : ptFd n d ((m, x) :: fs) = (m, d) :: fs := if_pos hm
        rw [ep, ed]
        exact ⟨by rw [List.map_cons, List.map_cons, e2], .cons hd t⟩
      · have ep : putF n v ((m, u) :: ws) = (m, u) :: putF n v ws := by first | (show (if m = n then _ else _) = _; rw [if_neg hm]) | (simp [putF, hm])
        have ed : ptFd n d ((m, x) :: fs) = (m, x) :: ptFd n d fs := if_neg hm
        rw [ep, ed]
        exact ⟨by rw [List.map_cons, List.map_cons, ih.ns], .cons c ih.ds⟩
theorem fs_len {K : PySem.W.Frag} {F : Hp} {ws : List (Str × V)} {fs : List (Str × PyData)} (h : FsOk K F ws fs) : ws.length = fs.length := by
  have := congrArg List.length h.ns
  rw [List.length_map, List.length_map] at this
  exact this
/-- e.n -/
theorem e_fldM (h : G[i]? = some (.ob (insC g.K a C dx fs))) (hC : Cls g.K C) (hn : NoAttr g.K C n) (hl : fs.lookup n = some d) : E g (tFld g.K (tVar i) n) G d := fun σ F H hh Q q => by
  obtain ⟨ws, eo, h0, hF, hH, f⟩ := ins_own hh h
  obtain ⟨v, e1, e2⟩ := FsOk.get f hl
  exact ⟨.ref a, eo, a, C, dx, ws, v, rfl, hH, hC, hn, e1, q v F H (Stp.refl hh.st.i) e2⟩
theorem ins_nt {C dx : Addr} {ws : List (Str × V)} : ∀ ps, HO.ins C dx ws ≠ .tbl ps := fun _ z => by cases z
/-- e.n = x -/
theorem s_fldM (h : G[i]? = some (.ob (insC g.K a C dx fs))) (he : E g te G d) (hC : Cls g.K C) (hn : NoAttr g.K C n) (hl : fs.length < 1000) (k : N g D.nx (G.set i (.ob (insC g.K a C dx (ptFd n d fs))))) : S g (sFld g.K (tVar i) te n) D G := fun σ F H hh => he σ F H hh _ fun v F1 H1 s1 d1 => by
  have hh1 := hh.mono s1
  obtain ⟨ws, eo, h0, hF, hH, f⟩ := ins_own hh1 h
  refine ⟨.ref a, eo, a, C, dx, ws, rfl, hH, hC, hn, by rw [fs_len f]; exact hl, k _ F1 _ ?_⟩
  exact hh1.obMut h eo h0 hF hH ins_nt ins_nt fun F' e => ⟨rfl, _, rfl, fs_put (f.mono e) (e.dp _ _ d1)⟩
theorem q_fldM (h : G[i]? = some (.ob (insC g.K a C dx fs))) (he : E g te G d) (hC : Cls g.K C) (hn : NoAttr g.K C n) (hl : fs.length < 1000) (k : S g tw D (G.set i (.ob (insC g.K a C dx (ptFd n d fs))))) : S g (tSeq (sFld g.K (tVar i) te n) tw) D G := s_fldM (D := { D with nx := tw D }) h he hC hn hl k
/-- e.n op= x, whole numbers -/
theorem s_augM {f : Int → Int → Int} {x y : Int} (h : G[i]? = some (.ob (insC g.K a C dx fs))) (hx : fs.lookup n = some (.int x)) (he : E g te G (.int y)) (hC : Cls g.K C) (hn : NoAttr g.K C n) (hl : fs.length < 1000) (k : N g D.nx (G.set i (.ob (insC g.K a C dx (ptFd n (.int (f x y)) fs))))) : S g (sFldAug g.K (tVar i) te (ipI f) n) D G := fun σ F H hh => by
  obtain ⟨ws, eo, h0, hF, hH, fo⟩ := ins_own hh h
  obtain ⟨v, e1, e2⟩ := FsOk.get fo hx
  cases e2
  refine ⟨.ref a, eo, a, C, dx, ws, _, rfl, hH, hC, hn, e1, he σ F H hh _ fun v F1 H1 s1 d1 => ?_⟩
  cases d1
  have hh1 := hh.mono s1
  obtain ⟨ws1, eo1, h01, hF1, hH1, f1⟩ := ins_own hh1 h
  refine ⟨x, y, rfl, rfl, dx, ws1, hH1, by rw [fs_len f1]; exact hl, k _ F1 _ ?_⟩
  exact hh1.obMut h eo1 h01 hF1 hH1 ins_nt ins_nt fun F' e => ⟨rfl, _, rfl, fs_put (f1.mono e) (.int _)⟩
end
/-- the promise of a method that may change self: (fields, arguments) ↦ (fields, answer) -/
def spM (K : PySem.W.Frag) (Tb : List Addr) (C : Addr) (R : List (Str × PyData) → List PyData → List (Str × PyData) → PyData → Prop) : Sp := fun vs H Q _ => ∃ F a dx ws fs us ds fs' d, vs = .ref a :: us ∧ Sub F H ∧ F a = none ∧ (∀ P ∈ Tb, GxR.TabG H P) ∧ H a = some (.ins C dx ws) ∧ FsOk K F ws fs ∧ DpAll K F us ds ∧ R fs ds fs' d ∧
  ∀ v F' H' ws', Stp F (L2.del H a) F' H' → H' a = some (.ins C dx ws') → F' a = none → FsOk K F' ws' fs' → Dp K F' v d → Q v H'
def RtM (g : Gd) (a C dx : Addr) (Q : VK) (fs' : List (Str × PyData)) (d : PyData) : Prop := ∀ v F' H' ws', Stp g.F0 g.H0 F' H' → H' a = some (.ins C dx ws') → F' a = none → FsOk g.K F' ws' fs' → Dp g.K F' v d → Q v H'
section
variable {g : Gd} {G : List Sl} {σ : L2.St} {F H : Hp} {i : Nat} {a C dx : Addr} {fs fs' : List (Str × PyData)} {m : Str} {d : PyData} {ds : List PyData} {te : TE} {ta : TA} {D : Ends} {tw : TS} {Q : VK}
/-- return e: self stands as fs' -/
theorem s_retM (he : E g te G d) (h0 : G[0]? = some (.ob (insC g.K a C dx fs'))) (k : RtM g a C dx D.rt fs' d) : S g (tRet te) D G := fun σ F H hh => he σ F H hh _ fun v F1 H1 s1 d1 => by
  have hh1 := hh.mono s1
  obtain ⟨ws, eo, _, hF, hH, f⟩ := ins_own hh1 h0
  exact k v F1 H1 ws hh1.st hH hF f d1
/-- the body's end -/
theorem n_retM (h0 : G[0]? = some (.ob (insC g.K a C dx fs'))) (k : RtM g a C dx Q fs' .none) : N g (fun _ H' => Q .non H') G := fun σ F H hh => by
  obtain ⟨ws, eo, _, hF, hH, f⟩ := ins_own hh h0
  exact k .non F H ws hh.st hH hF f .non
theorem del_same {H : Hp} {a : Addr} : L2.del H a a = none := if_pos rfl
theorem del_ne {H : Hp} {a b : Addr} (h : b ≠ a) : L2.del H a b = H b := if_neg h
theorem upd_back {H : Hp} {a : Addr} {o o' : HO} (h : H a = some o) : upd (upd H a o') a o = H := by
  funext b
  by_cases hb : b = a
  · rw [hb, upd_same, h]
  · rw [upd_ne hb, upd_ne hb]
/-- o.m(..): slot i's object goes from fs to fs' -/
theorem eg_meth {R : List (Str × PyData) → List PyData → List (Str × PyData) → PyData → Prop} {Ek : XK} (h : G[i]? = some (.ob (insC g.K a C dx fs))) (ha : A g ta G ds) (hm : fs.lookup m = none) (r : R fs ds fs' d) :
    EG g i (tMeth C m (spM g.K g.T C R) [] Ek (tVar i) ta) G (.ob (insC g.K a C dx fs')) d := fun σ F H hh Q q => by
  obtain ⟨ws, eo, h0, hF, hH, fo⟩ := ins_own hh h
  refine ⟨.ref a, eo, a, dx, ws, rfl, hH, fs_none fo hm, ha σ F H hh _ fun us F1 H1 s1 d1 => ?_⟩
  have hh1 := hh.mono s1
  obtain ⟨ws1, eo1, h01, hF1, hH1, f1⟩ := ins_own hh1 h
  rw [List.append_nil]
  refine ⟨F1, a, dx, ws1, fs, us, ds, fs', d, rfl, hh1.st.i, hF1, hh1.tab, hH1, f1, d1, r, fun v F2 H2 ws2 s2 hH2 hF2 fo2 d2 => ?_⟩
  have ext : ∀ b o, H1 b = some o → b ≠ a → L2.del H1 a b = some o := fun b o e hb => by rw [del_ne hb]; exact e
  -- the step with the object as it was
  have st : Stp F1 H1 F2 (upd H2 a (.ins C dx ws1)) := by
    refine ⟨s2.f, ⟨fun b o e nt => ?_, s2.i.nt⟩, fun b o e nt => ?_, fun b o e => ?_, fun P t => ?_, fun b o e nF => ?_⟩
    · have hb : b ≠ a := fun z => by rw [z, hF2] at e; cases e
      rw [upd_ne hb]; exact s2.i.ex b o e nt
    · by_cases hb : b = a
      · rw [hb] at e ⊢; rw [upd_same]; rw [hH1] at e; exact e
      · rw [upd_ne hb]; exact s2.h b o (ext b o e hb) nt
    · by_cases hb : b = a
      · rw [hb]; exact ⟨_, upd_same⟩
      · rw [upd_ne hb]; exact s2.s b o (ext b o e hb)
    · obtain ⟨ps, e, ok⟩ := t
      have hb : P ≠ a := fun z => by rw [z, hH1] at e; cases e
      obtain ⟨ps2, e2, ok2⟩ := s2.t P ⟨ps, ext P _ e hb, ok⟩
      exact ⟨ps2, by rw [upd_ne hb]; exact e2, ok2⟩
    · by_cases hb : b = a
      · rw [hb]; exact hF2
      · exact s2.n b o (ext b o e hb) nF
  have hh2 := hh1.mono st
  have fin := hh2.obMut h eo1 h01 hF2 upd_same ins_nt (ins_nt (C := C) (dx := dx) (ws := ws2)) (C' := insC g.K a C dx fs') fun F' e => ⟨rfl, ws2, rfl, fo2.mono e⟩
  rw [upd_back hH2] at fin
  refine q v F2 H2 (s1.q.trans ⟨s2.f, fun b o e nt q4 => ?_, fun b o e => ?_, st.n⟩) fin d2
  · exact s2.h b o (ext b o e fun z => q4 (by rw [z]; exact eo1)) nt
  · by_cases hb : b = a
    · rw [hb]; exact ⟨_, hH2⟩
    · exact s2.s b o (ext b o e hb)
end
end DW
/-! methods: their defs (mt_M), calls (pe_mtM, pe_mtM0), objects made (pe_mkM, q_makeM) -/
namespace DW
open PySem PySem.Spec PyProof.Rows L2
def beginM (N : List Str) (s : Sl) (ds : List PyData) : List Sl := s :: startG (N.length - 1) ds
theorem start_no {n : Nat} {ds : List PyData} {s : Sl} {j : Nat} (e : (startG n ds)[j]? = some s) : s.mine = false := by
  unfold startG at e
  rcases List.mem_append.mp (List.mem_of_getElem? e) with h | h
  · obtain ⟨d, _, rfl⟩ := List.mem_map.mp h; rfl
  · rw [(List.mem_replicate.mp h).2]; rfl
theorem sl_H0 {K : PySem.W.Frag} {H0 H0' F H : Hp} {o : Option V} {s : Sl} (m : s.mine = false) (h : SlOk K H0 F H o s) : SlOk K H0' F H o s := by
  cases s with
  | un => exact h
  | fz d => exact h
  | ow ds => cases m
  | raw v => exact h
  | od k => cases m
  | fk k => exact h
  | ob C => cases m
theorem holds_startM {K : PySem.W.Frag} {Tb : List Addr} {F H : Hp} {a C dx : Addr} {ws : List (Str × V)} {fs : List (Str × PyData)} {us : List V} {ds : List PyData} {n0 : Str} {N : List Str} (sb : Sub F H) (hF : F a = none) (ht : ∀ P ∈ Tb, GxR.TabG H P) (hH : H a = some (.ins C dx ws)) (fo : FsOk K F ws fs) (hd : DpAll K F us ds) :
    Holds ⟨K, Tb, F, L2.del H a, F⟩ (beginM (n0 :: N) (.ob (insC K a C dx fs)) ds) (L2.start (n0 :: N) (.ref a :: us)) F H := by
  have hs := holds_start (K := K) (Tb := Tb) (Nn := N) sb ht hd
  have es : L2.start (n0 :: N) (.ref a :: us) = some (V.ref a) :: L2.start N us := by
    unfold L2.start
    rw [List.map_cons, List.length_cons, List.length_cons, Nat.add_sub_add_right]
    rfl
  have eb : beginM (n0 :: N) (.ob (insC K a C dx fs)) ds = .ob (insC K a C dx fs) :: startG N.length ds := rfl
  rw [es, eb]
  refine ⟨by rw [List.length_cons, List.length_cons, hs.len], (show Stp F (L2.del H a) F H from ⟨Ex.refl F, sb, fun b o e n => ?_, fun b o e => ?_, fun P t => ?_, fun b o _ n => n⟩), fun j s o e1 e2 => ?_, fun j k s t p e1 e2 m1 m2 _ _ => ?_, ht, Ex.refl F⟩
  · by_cases hb : b = a
    · rw [hb, del_same] at e; cases e
    · rw [del_ne hb] at e; exact e
  · by_cases hb : b = a
    · rw [hb, del_same] at e; cases e
    · rw [del_ne hb] at e; exact ⟨o, e⟩
  · obtain ⟨ps, e, ok⟩ := t
    by_cases hb : P = a
    · rw [hb, del_same] at e; cases e
    · rw [del_ne hb] at e; exact ⟨ps, e, ok⟩
  · cases j with
    | zero =>
      cases e1; cases e2
      exact ⟨a, _, rfl, del_same, hF, hH, ins_nt, fun F' e => ⟨rfl, ws, rfl, fo.mono e⟩⟩
    | succ j =>
      have e1 : (startG N.length ds)[j]? = some s := e1
      have e2 : (L2.start N us)[j]? = some o := e2
      exact sl_H0 (start_no e1) (hs.sl j s o e1 e2)
  · cases j with
    | zero =>
      cases k with
      | zero => rfl
      | succ k =>
        have e2 : (startG N.length ds)[k]? = some t := e2
        rw [start_no e2] at m2; cases m2
    | succ j =>
      have e1 : (startG N.length ds)[j]? = some s := e1
      rw [start_no e1] at m1; cases m1
/-- what the text says of a method -/
structure MtOk (P : Program) (w : World) (K : PySem.W.Frag) (mg : Str → Option Value) (base : Heap) (k : Nat) (C : Addr) (m : Str) (ps : List Str) (sp : Sp) : Prop where
  ex : ∃ f fd, Meth K C m f ∧ FnOk P w K mg base CX0 k f fd ps sp ∧ Binds K fd ps []
section
variable {P : Program} {w : World} {K : PySem.W.Frag} {mg : Str → Option Value} {base : Heap} {m qual n0 : Str} {st : Stmt} {f C : Addr} {fd : FuncData} {N ps : List Str} {k : Nat} {Tb : List Addr}
theorem fn_M (F : Fun K m qual st f fd) (Sc : FnScope (n0 :: N) ps (defScope st)) {R : List (Str × PyData) → List PyData → List (Str × PyData) → PyData → Prop} (hlen : ∀ fs ds fs' d, R fs ds fs' d → ds.length + 1 = ps.length)
    (body : ∀ (cdv : Value) (A : Around) (outer : List Env) (s : Shared) (H : Hp) (E : XK), Room k (A.deeper (envOfC qual (defScope st) s.heap.objs.size f cdv)) →
      ∃ t, PSs (cxOf CX0 P w K mg base (n0 :: N) qual (defScope st) f cdv A outer s H E).nox (defBody st) t ∧ ∀ (fs : List (Str × PyData)) (ds : List PyData) (fs' : List (Str × PyData)) (d : PyData) (F0 H0 : Hp) (a dx : Addr) (Q : VK), R fs ds fs' d → RtM ⟨K, Tb, F0, H0, F0⟩ a C dx Q fs' d →
        S ⟨K, Tb, F0, H0, F0⟩ t { nx := fun _ H' => Q .non H', rt := Q } (beginM (n0 :: N) (.ob (insC K a C dx fs)) ds)) :
    FnOk P w K mg base CX0 (k + 1) f fd ps (spM K Tb C R) := by
  refine F.ok Sc (fun vs H Q E h => ?_) (fun cdv A outer s H vs Q E hr h => ?_)
  · obtain ⟨F1, a, dx, ws, fs, us, ds, fs', d, rfl, _, _, _, _, _, hd, r, _⟩ := h
    rw [List.length_cons, dps_len hd]; exact hlen _ _ _ _ r
  · obtain ⟨F1, a, dx, ws, fs, us, ds, fs', d, rfl, sb, hF, ht, hH, fo, hd, r, q⟩ := h
    obtain ⟨t, h1, h2⟩ := body cdv A outer s H E hr
    exact ⟨t, h1, h2 fs ds fs' d F1 (L2.del H a) a dx Q r (fun v F' H' ws' s1 e1 e2 e3 e4 => q v F' H' ws' s1 e1 e2 e3 e4) _ F1 H (holds_startM sb hF ht hH fo hd)⟩
theorem mt_M (F : Fun K m qual st f fd) (Sc : FnScope (n0 :: N) ps (defScope st)) (hM : Meth K C m f) (hb : Binds K fd ps []) {R : List (Str × PyData) → List PyData → List (Str × PyData) → PyData → Prop} (hlen : ∀ fs ds fs' d, R fs ds fs' d → ds.length + 1 = ps.length)
    (body : ∀ (cdv : Value) (A : Around) (outer : List Env) (s : Shared) (H : Hp) (E : XK), Room k (A.deeper (envOfC qual (defScope st) s.heap.objs.size f cdv)) →
      ∃ t, PSs (cxOf CX0 P w K mg base (n0 :: N) qual (defScope st) f cdv A outer s H E).nox (defBody st) t ∧ ∀ (fs : List (Str × PyData)) (ds : List PyData) (fs' : List (Str × PyData)) (d : PyData) (F0 H0 : Hp) (a dx : Addr) (Q : VK), R fs ds fs' d → RtM ⟨K, Tb, F0, H0, F0⟩ a C dx Q fs' d →
        S ⟨K, Tb, F0, H0, F0⟩ t { nx := fun _ H' => Q .non H', rt := Q } (beginM (n0 :: N) (.ob (insC K a C dx fs)) ds)) :
    MtOk P w K mg base (k + 1) C m ps (spM K Tb C R) := ⟨f, fd, hM, fn_M F Sc hlen body, hb⟩
end
/-- o.m(..) -/
theorem pe_mtM {X : Cx} {k j : Nat} {C : Addr} {m : Str} {ps : List Str} {sp : Sp} {o e : Expr} {es : List Expr} {to : TE} {t : TA} {pos apos : Pos} {pl : Sem Bool} (M : MtOk X.prog X.w X.K X.mg X.base j C m ps sp) (hC : Cls X.K C) (hr : Room k X.A) (hj : j ≤ k) (ho : PE X o to) (ha : PA X (e :: es) t)
    (h1 : starEach (e :: es) X.env = (false, eval e X.env) :: starEach es X.env := by rfl) (h2 : (backTo pos (starEach es X.env)).any (·.1) = false := by rfl)
    (h3 : eval ((o.Attribute m apos).Call (e :: es) [] pos) X.env = (do
      let ov ← eval o X.env
      standAt apos.atName
      let (f, first) ← holding [ov] (getMethod ov m pl)
      callWith pos f first (backTo pos (starEach (e :: es) X.env)) (backToKw pos (keywordEach [] X.env))) := by rfl) : PE X ((o.Attribute m apos).Call (e :: es) [] pos) (tMeth C m sp [] E0 to t) := by
  obtain ⟨f, fd, hM, F, hb⟩ := M.ex
  exact pe_meth ho hC hM F (hr.mono hj) hb .nil pass0 ha h1 h2 h3
theorem pe_mtM0 {X : Cx} {k j : Nat} {C : Addr} {m : Str} {ps : List Str} {sp : Sp} {o : Expr} {to : TE} {pos apos : Pos} {pl : Sem Bool} (M : MtOk X.prog X.w X.K X.mg X.base j C m ps sp) (hC : Cls X.K C) (hr : Room k X.A) (hj : j ≤ k) (ho : PE X o to)
    (h3 : eval ((o.Attribute m apos).Call [] [] pos) X.env = (do
      let ov ← eval o X.env
      standAt apos.atName
      let (f, first) ← holding [ov] (getMethod ov m pl)
      callWith pos f first (backTo pos (starEach [] X.env)) (backToKw pos (keywordEach [] X.env))) := by rfl) : PE X ((o.Attribute m apos).Call [] [] pos) (tMeth C m sp [] E0 to tNil) := by
  obtain ⟨f, fd, hM, F, hb⟩ := M.ex
  exact pe_meth0 ho hC hM F (hr.mono hj) hb .nil pass0 h3
/-- what the text says of a class that is made by C(..): its __init__ -/
structure MkM (P : Program) (w : World) (K : PySem.W.Frag) (mg : Str → Option Value) (base : Heap) (k : Nat) (x : Str) (C : Addr) (ps : List Str) (sp : Sp) : Prop where
  gC : mg x = some (.ref C)
  ex : ∃ f fd, Mk K C f ∧ FnOk P w K mg base CX0 k f fd ps sp ∧ Binds K fd ps []
section
variable {g : Gd} {G : List Sl} {i : Nat} {C : Addr} {fs' : List (Str × PyData)} {ds : List PyData} {ta : TA} {D : Ends} {tw : TS} {R : List (Str × PyData) → List PyData → List (Str × PyData) → PyData → Prop} {Ek : XK}
/-- x = C(..) -/
theorem s_makeM (ha : A g ta G ds) (r : R [] ds fs' .none) (k : ∀ a dx, N g D.nx (G.set i (.ob (insC g.K a C dx fs')))) : S g (tAsg (tMake C (spM g.K g.T C R) [] Ek ta) (gName i)) D G := fun σ F H hh => ha σ F H hh _ fun us F1 H1 s1 d1 => by
  intro a dx ha0 hd0 hne
  rw [List.append_nil]
  have hh1 := hh.mono s1
  have st1 : Stp F1 H1 F1 (upd H1 dx (.own a)) := Stp.mine hh1.st.i hd0
  have ha1 : upd H1 dx (.own a) a = none := by rw [upd_ne (Ne.symm hne)]; exact ha0
  have st2 : Stp F1 (upd H1 dx (.own a)) F1 (upd (upd H1 dx (.own a)) a (.ins C dx [])) := Stp.mine st1.i ha1
  have hh2 := (hh1.mono st1).mono st2
  have hF : F1 a = none := hh1.st.i.free ha0
  refine ⟨F1, a, dx, [], [], us, ds, fs', .none, rfl, st2.i, hF, hh2.tab, upd_same, ⟨rfl, .nil⟩, d1, r, fun v F2 H2 ws2 s2 hH2 hF2 fo2 d2 => ?_⟩
  cases d2
  refine ⟨rfl, k a dx _ F2 H2 ?_⟩
  have ed : L2.del (upd (upd H1 dx (.own a)) a (.ins C dx [])) a = upd H1 dx (.own a) := by
    funext b
    by_cases hb : b = a
    · rw [hb, del_same, ha1]
    · rw [del_ne hb, upd_ne hb]
  rw [ed] at s2
  have st := st1.trans s2
  have hh3 := hh1.mono st
  exact hh3.set (s := .ob (insC g.K a C dx fs')) ⟨a, _, rfl, old_free hh1.st ha0, hF2, hH2, ins_nt, fun F' e => ⟨rfl, ws2, rfl, fo2.mono e⟩⟩ fun _ j t _ e1 m e2 => new_ok hh1 ha0 j ⟨t, e1, m⟩ e2
theorem q_makeM (ha : A g ta G ds) (r : R [] ds fs' .none) (k : ∀ a dx, S g tw D (G.set i (.ob (insC g.K a C dx fs')))) : S g (tSeq (tAsg (tMake C (spM g.K g.T C R) [] Ek ta) (gName i)) tw) D G := s_makeM (D := { D with nx := tw D }) ha r k
end
theorem pe_mkM {X : Cx} {k j : Nat} {C : Addr} {x : Str} {ps : List Str} {sp : Sp} {e : Expr} {es : List Expr} {t : TA} {p pos : Pos} (M : MkM X.prog X.w X.K X.mg X.base j x C ps sp) (hr : Room k X.A) (hj : j + 1 ≤ k) (hg : Gl X x) (ha : PA X (e :: es) t) (hdb : (x == ("__debug__" : Str)) = false := by decide)
    (he : starEach (e :: es) X.env = (false, eval e X.env) :: starEach es X.env := by rfl) (hpl : (backTo pos (starEach es X.env)).any (·.1) = false := by rfl) : PE X (.Call (.Name x p) (e :: es) [] pos) (tMake C sp [] E0 t) := by
  obtain ⟨f, fd, hM, F, hb⟩ := M.ex
  exact pe_make hM F (hr.mono hj) hg M.gC hb .nil pass0 ha hdb he hpl
theorem pe_mkM0 {X : Cx} {k j : Nat} {C : Addr} {x : Str} {ps : List Str} {sp : Sp} {p pos : Pos} (M : MkM X.prog X.w X.K X.mg X.base j x C ps sp) (hr : Room k X.A) (hj : j + 1 ≤ k) (hg : Gl X x) (hdb : (x == ("__debug__" : Str)) = false := by decide) : PE X (.Call (.Name x p) [] [] pos) (tMake C sp [] E0 tNil) := by
  obtain ⟨f, fd, hM, F, hb⟩ := M.ex
  exact pe_make0 hM F (hr.mono hj) hg M.gC hb .nil pass0 hdb
theorem pe_fldK {X : Cx} (K : PySem.W.Frag) {e : Expr} {f : Str} {pos : Pos} {ta : TE} (he : PE X e ta) (h : X.K = K := by rfl) (hb : attributeBase e f X.env (eval e X.env) = eval e X.env := by rfl) : PE X (e.Attribute f pos) (tFld K ta f) := h ▸ pe_fld he hb
theorem ps_fldK {X : Cx} (K : PySem.W.Frag) {o value : Expr} {f : Str} {pos pos' : Pos} {ta tv : TE} (ho : PE X o ta) (hv : PE X value tv) (h : X.K = K := by rfl) (hs : swapsWith value (some (o.Attribute f pos')) pos.line X.env = pure false := by rfl) : PS X (Stmt.Assign [o.Attribute f pos'] value pos) (sFld K ta tv f) := h ▸ ps_fld ho hv hs
theorem ps_augF {X : Cx} (K : PySem.W.Frag) {o value : Expr} {f : Str} {pos tpos : Pos} {ta tv : TE} {op : Operator} {rd : V → V → Hp → VK → Prop} (ho : PE X o ta) (hv : PE X value tv) (hop : InOp X op rd) (h : X.K = K := by rfl) : PS X (Stmt.AugAssign (o.Attribute f tpos) op value pos) (sFldAug K ta tv rd f) := h ▸ ps_fldaug ho hv hop
end DW
/-! `xs = [.. for y in a.replace(..).split(..) if ..]` in a def that has an argument: a token is out when its body begins -/
namespace DW
open PySem PySem.Spec PyProof.Rows L2
end DW
/-! a displayed dict of more than fifteen entries -/
namespace DW
open PySem PySem.Spec PyProof.Rows L2
end DW
/-! displayed dicts of many texts as own dicts; d.get(k); a module's written dict whose values are data: k in D, D[k] -/
namespace DW
open PySem PySem.Spec PyProof.Rows L2
def putAll (acc q : List (Str × PyData)) : List (Str × PyData) := q.foldl (fun a p => putD a p.1 p.2) acc
theorem kv_mergeK {K : PySem.W.Frag} {F : Hp} : ∀ {more : List (Key × V)} {q : List (Str × PyData)} {vs : List (Key × V)} {acc : List (Str × PyData)}, KvOk K F more q → KvOk K F vs acc → KvOk K F (mergeK vs more) (putAll acc q)
  | [], [], vs, acc, _, h => h
  | [], _ :: _, _, _, h, _ => by cases h.ks
  | _ :: _, [], _, _, h, _ => by cases h.ks
  | u :: more, p :: q, vs, acc, h, h0 => by
    obtain ⟨a, b, c⟩ := kv_cons h
    have e : KvOk K F (putK vs u.1 u.2) (putD acc p.1 p.2) := by rw [a]; exact kv_put h0 b
    show KvOk K F (mergeK (putK vs u.1 u.2) more) (putAll (putD acc p.1 p.2) q)
    exact kv_mergeK c e
/-! a module's written dict whose values are data -/
/-- what the text says of a written dict: the keys of tab are there with their data, those of ms are not -/
structure KdT (K : PySem.W.Frag) (w : World) (p : Addr) (tab : List (Str × PyData)) (ms : List Str) : Prop where
  kd : KdO K w p
  has : ∀ q ∈ tab, ∃ u v, PySem.W.nsIn K p q.1 = some (some u) ∧ RelV v u ∧ ∀ F, Dp K F v q.2
  non : ∀ k ∈ ms, PySem.W.nsIn K p k = some none
def tKIx (K : PySem.W.Frag) (w : World) (td ty : TE) : TE := fun σ H Q => td σ H fun x H1 => ty σ H1 fun y H2 => ∃ p k u v, x = .ref p ∧ KdO K w p ∧ y = .str k ∧ PySem.W.nsIn K p k = some (some u) ∧ RelV v u ∧ Q v H2
theorem pe_kix {X : Cx} {o i : Expr} {pos : Pos} {td ty : TE} (K : PySem.W.Frag) (w : World) (ho : PE X o td) (hi : PE X i ty) (hs : NoSl i) (hK : X.K = K := by rfl) (hw : X.w = w := by rfl) : PE X (.Subscript o i pos) (tKIx K w td ty) := by
  subst hK hw
  refine ⟨fun pins s σ H Q I h => ?_⟩
  refine subD_of PySem.F.slot_dict_getitem.lookup hs (thn (ho.run pins s σ H _ I h) fun u s1 ⟨x, H1, I1, rx, q1⟩ => thn (hi.run pins s1 σ H1 _ I1 q1) fun iv s2 ⟨y, H2, I2, ry, p, k, u0, v0, ex, ⟨es, n, hl, hk, low⟩, ey, e0, r0, q2⟩ => ?_)
  subst ex ey
  obtain rfl : u = Value.ref p := rx
  obtain ⟨t, rfl⟩ : ∃ t, iv = Value.str k t := ry
  have hm := PySem.W.mapOf_K (prog := X.prog) (w := X.w) I2.kIn hl hk
  exact ⟨hm.typeIs, wpAny_getItem_of (knd := PySem.strKind X.prog X.w) (strKind_is X.prog X.w k t) hm (PySem.W.find_K hl e0) ⟨v0, H2, I2.tok _, r0, q2⟩⟩
section
variable {w : World} {g : Gd} {G : List Sl} {tk : TE} {k : Str} {d : PyData} {p : Addr} {tab : List (Str × PyData)} {ms : List Str}
theorem e_kix (T : KdT g.K w p tab ms) (h : E g tk G (.str k)) (m : (k, d) ∈ tab) : E g (tKIx g.K w (tC (.ref p)) tk) G d := fun σ F H hh Q q => h σ F H hh _ fun v F1 H1 s1 d1 => by
  cases d1
  obtain ⟨u, v0, e, r, dp⟩ := T.has _ m
  exact ⟨p, k, u, v0, rfl, T.kd, rfl, e, r, q v0 F1 H1 s1 (dp F1)⟩
end
end DW
/-! set(xs), xs a list of tuples of any depth -/
namespace DW
open PySem PySem.Spec PyProof.Rows L2
abbrev IsK (P : Program) (w : World) (h : Heap) (k : NestedKey) (a : Addr) : Prop := (nestedKind P w).is h k a
abbrev hkN (P : Program) (w : World) (k : NestedKey) : Int := (nestedKind P w).hash k
def rwN (P : Program) (w : World) (L : List (Addr × NestedKey)) : List (Int × Value) := L.map fun p => (hkN P w p.2, Value.ref p.1)
section
variable {P : Program} {w : World} {A : Around} {E : Value → Shared → Prop} {s : Shared}
/-- the set of the keys L at a -/
structure SeN (P : Program) (w : World) (h : Heap) (a : Addr) (L : List (Addr × NestedKey)) (es : Array (Int × Value)) (ep : Nat) (t : SetTable) : Prop where
  ob : ∃ o, h.get? a = some o ∧ o.ExactSet ∧ o.data = .set es ep t
  rows : es.toList = rwN P w L
  tab : TabOk t (L.map fun p => hkN P w p.2)
  nd : (L.map (·.2)).Nodup
  tup : ∀ p ∈ L, IsK P w h p.2 p.1
  led : w.params.followText "set-order" = true ∨ t.led = true
  room : L.length * 5 < t.mask * 3
  few : L.length < 64
section
variable {a : Addr} {L : List (Addr × NestedKey)} {es : Array (Int × Value)} {ep : Nat} {t : SetTable}
theorem SeN.size {h : Heap} (S : SeN P w h a L es ep t) : es.size = L.length := by rw [← Array.length_toList, S.rows]; unfold rwN; rw [List.length_map]
end
end
end DW
/-! set(xs), xs a list of tuples of any depth: its elements laid, new ones added -/
namespace DW
open PySem PySem.Spec PyProof.Rows L2
end DW
/-! sorted(set(xs)), xs a list of tuples of any depth -/
namespace DW
open PySem PySem.Spec PyProof.Rows L2
section
variable {P : Program} {w : World} {A : Around} {E : Value → Shared → Prop} {s : Shared} {h h' : Heap} {a : Addr} {L : List (Addr × NestedKey)} {es : Array (Int × Value)} {ep : Nat} {t : SetTable}
theorem SeN.keep (S : SeN P w h a L es ep t) (k : ∀ o, h.get? a = some o → h'.get? a = some o) (tup : ∀ p ∈ L, IsK P w h' p.2 p.1) : SeN P w h' a L es ep t := by
  obtain ⟨o, h1, h2, h3⟩ := S.ob
  exact ⟨⟨o, k o h1, h2, h3⟩, S.rows, S.tab, S.nd, tup, S.led, S.room, S.few⟩
end
def adV : V → Addr
  | .ref a => a
  | _ => 0
def OkZ (K : PySem.W.Frag) (H : Hp) (zs : List (V × PyData)) : Prop := ∀ z ∈ zs, Dp K H z.1 z.2 ∧ kyD z.2 = true ∧ (nk z.2).depth ≤ 8 ∧ ∃ l, z.2 = .tuple l
theorem OkZ.ref {K : PySem.W.Frag} {H : Hp} {zs : List (V × PyData)} (h : OkZ K H zs) {z : V × PyData} (hz : z ∈ zs) : z.1 = .ref (adV z.1) := by
  obtain ⟨d, _, _, l, e⟩ := h z hz
  obtain ⟨v, x⟩ := z
  dsimp only at d e ⊢
  subst e
  obtain ⟨a, _, rfl, _⟩ := dp_tq d
  rfl
end DW
/-! all(x for ..), the elements lists: a list counts as true if it has an element -/
namespace DW
open PySem PySem.Spec PyProof.Rows L2 GxR GenW
end DW
/-! dict(a tuple of pairs) -/
namespace DW
open PySem PySem.Spec PyProof.Rows L2
theorem tuple_keys_none : typeLookup (Value.type "tuple") (Str.ofString "keys") = pure none := by first | rfl | kernel_rfl
theorem miss_tuple {P : Program} {w : World} {A : Around} {E : Value → Shared → Prop} {h : Heap} {g : Array GenState} {d : Drawn} {t : Nat} {os : OsState} {a : Addr} {xs : Array Value} {k : Nat} {sl : Array (Option Value)} {Q : Option Value → Shared → Prop}
    (ha : h.get? a = some { cls := .type "tuple", data := .seq xs k, slots := sl }) (hh : A.handled = none)
    (hQ : ∀ (h' : Heap) (tk : Nat), (∀ b o, h.get? b = some o → h'.get? b = some o) → Q none ⟨h', g, d, tk, os⟩) :
    wpAny (model P w) A (getAttr? (.ref a) (Str.ofString "keys")) Q E ⟨h, g, d, t, os⟩ := by
  have ty : Shared.TypeIs ⟨h, g, d, t+1, os⟩ (.ref a) "tuple" := ⟨_, ha, rfl⟩
  unfold getAttr? mkText
  refine wpAny_bind (wpAny_bind (wpAny_fresh' (wpAny_pure ?_)))
  unfold getAttrBy?
  refine wpAny_bind (wpAny_attempt ?_)
  unfold getAttrBy
  refine wpAny_holding (wpAny_bind (wpAny_typeOf (T := "tuple") ty ?_))
  refine wpAny_bind (wpAny_of_eq F.slot_tuple_getattribute.lookup ?_)
  dsimp only
  refine L2.wp_if_neg (by decide) ?_
  unfold getAttrByItsOwn
  refine wpAny_bind (wpAny_of_eq (a := none) (by rfl) ?_)
  refine wpAny_bind (wpAny_attempt (wpAny_holding ?_))
  unfold callGetattribute
  refine L2.wp_if_neg (by decide) ?_
  unfold boundAndCalled
  refine wpAny_bind (wpAny_of_eq (F.slot_tuple_getattribute.bind (.ref a)) ?_)
  dsimp only
  refine call_meets F.slot_tuple_getattribute ty am_entry_tuple_getattribute (F.args_tuple_getattribute_2 _ _) (meets_getattribute_miss_tuple a xs k sl _ _ tuple_keys_none (by decide)) ⟨ha, hh, fun h' tk e ne => ?_⟩
  obtain ⟨kp, nw, tt, u, he⟩ := ne
  show wpAny _ _ _ _ _ _
  unfold getattributeRaised
  have te : Shared.TypeIs ⟨h', g, d, tk, os⟩ (.ref e) "AttributeError" := ⟨_, he, rfl⟩
  refine wpAny_bind (wpAny_isInstance te sub_AttributeError ?_)
  refine L2.wp_if_pos rfl (wpAny_bind ?_)
  unfold hookBehind
  refine L2.wp_if_neg (by decide) (wpAny_of_eq am_tuple_getattr_none ?_)
  unfold hookOrError
  dsimp only
  unfold attributeErrorLeaves
  refine L2.wp_if_pos (by decide) (wpAny_bind (wpAny_throw ?_))
  refine wpAny_bind (wpAny_isInstance te sub_AttributeError ?_)
  exact L2.wp_if_pos rfl (wpAny_pure (hQ h' tk kp))
theorem IsTuple.extBut {h h' : Heap} {a b : Addr} {items : Array Value} (hb : b ≠ a) (x : Heap.ExtBut a h h') (t : h.IsTuple b items) : h'.IsTuple b items := by
  obtain ⟨o, h1, h2⟩ := t
  exact ⟨o, x b o hb h1, h2⟩
theorem upd_loopT {prog : Program} {w : World} {A : Around} {R : Result → Shared → Prop} {S I l : Addr} {items : Array Value} {res : Value} (hA : A.handled = none) (hlI : l ≠ I) (hSI : S ≠ I) (hSl : S ≠ l) :
    ∀ (rest : List (Key × Value)) (i : Nat) (acc : List (Key × Value)) (ix : Int) (t : Tok) (s : Shared), items.size = i + rest.length → acc.length + rest.length ≤ sizeLine →
      (∀ (j : Nat) (q : Key × Value), rest[j]? = some q → ∃ b u, items[i + j]? = some (Value.ref b) ∧ b ≠ S ∧ b ≠ I ∧ IsTup s.heap b #[u, q.2] ∧ keyIs q.1 u = true) →
      s.heap.IsTupleIter I l i → s.heap.IsTuple l items → Heap.DictOf (mixKind prog w) s.heap S acc →
      (∀ (h' : Heap) (tk : Nat), Heap.DictOf (mixKind prog w) h' S (merged acc rest) → (∀ b o, b ≠ S → b ≠ I → s.heap.get? b = some o → h'.get? b = some o) → R (.ok (.ret res)) { s with heap := h', toks := tk }) →
      codeAny (model prog w) A (.builtin "dict.update.loop" { pos := [.ref S, .ref I, .int ix t, res] }) R s := by
  intro rest
  induction rest with
  | nil =>
    intro i acc ix t s hsz hz hp hi ht hd hR
    refine codeAny_builtin ud_entry ?_
    rw [Around.under_plainId ud_plain _]
    show wpAny _ A.in1 (pyNext (.ref I) >>= _) _ _ s
    refine wpAny_bind (wpAny_pyNext_tuple_end (A := A.in1) hA hi ht (Array.getElem?_eq_none (by rw [hsz]; exact Nat.le_refl _)) fun h' x => ?_)
    show wpAny _ _ (pure () >>= fun _ => ret res) _ _ _
    refine wpAny_bind (wpAny_pure ?_)
    show wpAny _ _ (ret res) _ _ _
    refine wpAny_pure (hR h' s.toks (hd.extBut x hSI) fun b o _ h2 e => x b o h2 e)
  | cons q rest ih =>
    intro i acc ix t s hsz hz hp hi ht hd hR
    rw [List.length_cons] at hsz hz
    obtain ⟨b, u, hb, hbS, hbI, hbt, hku⟩ := hp 0 q rfl
    have hb : items[i]? = some (.ref b) := hb
    refine codeAny_builtin ud_entry ?_
    rw [Around.under_plainId ud_plain _]
    show wpAny _ A.in1 (pyNext (.ref I) >>= _) _ _ s
    refine wpAny_bind (wpAny_pyNext_tuple_item hi ht hb fun h1 hi1 sb1 => ?_)
    have x1 := sb1.extBut
    dsimp only
    have hbt1 : IsTup h1 b #[u, q.2] := hbt.extBut x1 hbI
    refine wpAny_bind (wpAny_holding (wpAny_bind (wpAny_tryCatch (wpAny_pairItems (.inl hbt1) ?_))))
    dsimp only
    refine wpAny_holding ?_
    refine wpAny_dictSet_pairs (knd := mixKind prog w) (k := q.1) hku (hd.extBut x1 hSI) (fun h2 hd2 sb2 => ?_) (by omega)
    have x2 := sb2.extBut
    have hl2 : h2.IsTuple l items := IsTuple.extBut (Ne.symm hSl) x2 (IsTuple.extBut hlI x1 ht)
    have hi2 : h2.IsTupleIter I l (i + 1) := by
      obtain ⟨o, e1, e2⟩ := hi1
      exact ⟨o, x2 I o (Ne.symm hSI) e1, e2⟩
    have hst := stored_length_le acc q.1 q.2
    refine wpAny_pure ⟨plainId_quiet ud_plain _, ih (i + 1) (stored acc q.1 q.2) (ix + 1) 0 _ (by omega) (by omega) (fun j q' hj => ?_) hi2 hl2 hd2 fun h3 tk hd3 k3 => ?_⟩
    · obtain ⟨b', u', e1, e2, e3, e4, e5⟩ := hp (j + 1) q' hj
      exact ⟨b', u', by rw [← e1]; congr 1; omega, e2, e3, (e4.extBut x1 e3).extBut x2 e2, e5⟩
    · exact hR h3 tk hd3 fun b' o n1 n2 e => k3 b' o n1 n2 (x2 b' o n1 (x1 b' o n2 e))
theorem call_dict_pairsT {prog : Program} {w : World} {A : Around} {E : Value → Shared → Prop} {s : Shared} {l : Addr} {sl : Array (Option Value)} {items : Array Value} {n : Nat} {prs : List (Key × Value)} {Q : Value → Shared → Prop} (hA : A.handled = none)
    (hl : s.heap.get? l = some { cls := .type "tuple", data := .seq items n, slots := sl }) (hsz : items.size = prs.length) (hz : prs.length ≤ sizeLine)
    (hp : ∀ (j : Nat) (q : Key × Value), prs[j]? = some q → ∃ b u, items[j]? = some (Value.ref b) ∧ IsTup s.heap b #[u, q.2] ∧ keyIs q.1 u = true)
    (fin : ∀ (h' : Heap) (tk : Nat), Heap.DictOf (mixKind prog w) h' s.heap.objs.size (merged [] prs) → (∀ b o, s.heap.get? b = some o → h'.get? b = some o) → Q (.ref s.heap.objs.size) { s with heap := h', toks := tk }) :
    wpAny (model prog w) A (call (.type "dict") [.ref l]) Q E s := by
  refine callType_codes (Q₁ := fun v s1 => v = .ref s.heap.objs.size ∧ s1 = { s with heap := s.heap.push { cls := .type "dict", data := .dict #[] } }) F.kt_called_dict (F.kt_typeCall_dict_1 _) F.entry_dict_init (kt_code_dict_new _ ⟨rfl, rfl⟩) fun obj s1 h1 => ?_
  obtain ⟨rfl, rfl⟩ := h1
  have d0 := Heap.DictOf.new (knd := mixKind prog w) s.heap
  have l1 : (s.heap.push { cls := .type "dict", data := .dict #[] }).get? l = some { cls := .type "tuple", data := .seq items n, slots := sl } := Heap.get?_push_of_some _ hl
  have ltl : l < s.heap.objs.size := Heap.lt_size hl
  refine ⟨d0.typeIs, F.args_dict_init_2 _ _, ?_⟩
  unfold Builtin.«dict.__init__» Builtin.Dict.selfAndRest
  refine wpAny_bind (wpAny_bind (wpAny_notOrdered_dict d0.typeIs ?_))
  dsimp only
  refine wpAny_pure ?_
  dsimp only
  unfold Builtin.Dict.updateCommon Builtin.Dict.updateFrom
  dsimp only
  refine wpAny_bind (wpAny_typeOf (T := "tuple") ⟨_, l1, rfl⟩ ?_)
  refine L2.wp_if_pos (by decide) (wpAny_bind (miss_tuple l1 (by simp [hA]) fun h2 tk k2 => ?_))
  refine L2.wp_if_pos rfl (wpAny_bind (wpAny_rule (wpAny_bind ?_)))
  have l2 := k2 _ _ l1
  have at2 : ∀ o, (s.heap.push { cls := .type "dict", data := .dict #[] }).get? s.heap.objs.size = some o → h2.get? s.heap.objs.size = some o := fun o e => k2 _ _ e
  have d2 := d0.at at2
  have lt2 : s.heap.objs.size < h2.objs.size := by
    obtain ⟨o, e, _⟩ := d2.typeIs (s := { s with heap := h2 })
    exact Heap.lt_size e
  refine wpAny_pyIter_tuple (items := items) ⟨_, l2, rfl, n, rfl⟩ ?_
  have k3 : ∀ b o, h2.get? b = some o → (h2.push { cls := .type "tuple_iterator", data := .fields #[.ref l, .int 0 0] }).get? b = some o := fun b o e => Heap.get?_push_of_some _ e
  refine wpAny_pure ⟨plainId_quiet ud_plain _, ?_⟩
  refine upd_loopT (hA := by simp [hA]) (S := s.heap.objs.size) (I := h2.objs.size) (l := l) (items := items) (Nat.ne_of_lt (Nat.lt_trans ltl lt2)) (Nat.ne_of_lt lt2) (Ne.symm (Nat.ne_of_lt ltl)) prs 0 [] 0 0 _ (by rw [hsz, Nat.zero_add]) (by rw [List.length_nil, Nat.zero_add]; exact hz) (fun j q hj => ?_) ⟨_, Heap.get?_push_size _ rfl, rfl, rfl⟩ ⟨_, k3 _ _ l2, rfl, n, rfl⟩ (d2.at fun o e => k3 _ _ e) fun h4 tk4 d4 k4 => ⟨rfl, fin h4 tk4 d4 fun b o e => ?_⟩
  · obtain ⟨b, u, e1, e2, e3⟩ := hp j q hj
    have hb := e2.lt
    refine ⟨b, u, by rw [Nat.zero_add]; exact e1, Nat.ne_of_lt hb, Nat.ne_of_lt (Nat.lt_trans hb lt2), ?_, e3⟩
    obtain ⟨o, h1, h3⟩ := e2
    exact ⟨o, k3 _ _ (k2 _ _ (Heap.get?_push_of_some _ h1)), h3⟩
  · have hb := Heap.lt_size e
    exact k4 b o (Nat.ne_of_lt hb) (Nat.ne_of_lt (Nat.lt_trans hb lt2)) (k3 _ _ (k2 _ _ (Heap.get?_push_of_some _ e)))
end DW
/-! for k in a module's written dict; dict(D[k]), D a written dict of tuples of pairs of texts -/
namespace DW
open PySem PySem.Spec PyProof.Rows L2
/-- the keys of a written dict, in their order -/
def KdL (K : PySem.W.Frag) (D : Addr) (ks : List Str) : Prop := ∃ es n, K.lookup D = some ⟨.type "dict", none, .dict es n, #[]⟩ ∧ (D == sysModules) = false ∧ es.size = ks.length ∧ ∀ (i : Nat) (h : i < es.size), ∃ k t, ks[i]? = some k ∧ es[i].key = .str k t
def ItK (ks : List Str) : It := { go := fun i _ => i < ks.length, yld := fun i H x H' => H' = H ∧ ∃ k, ks[i]? = some k ∧ x = .str k, stop := fun i _ => ks.length ≤ i }
theorem turn_K {P : Program} {w : World} {K : PySem.W.Frag} {tg : Expr} {D it : Addr} {es : Array DictEntry} {n : Nat} {ks : List Str} (hl : K.lookup D = some ⟨.type "dict", none, .dict es n, #[]⟩) (hz : es.size = ks.length) (hk : ∀ (i : Nat) (h : i < es.size), ∃ k t, ks[i]? = some k ∧ es[i].key = .str k t) :
    Turn P w K tg (ItK ks) [it] it fun i h => h.IsKeyIter it D i es.size n := by
  have raw : ∀ {h : Heap}, K.In h → h.DictRaw D es n := fun {h} q => ⟨_, q _ _ hl, ⟨rfl, rfl, rfl⟩, rfl⟩
  refine ⟨by simp, fun i h h1 b hb => ?_, fun i h h' h1 kp => h1.at (kp it (by simp)), ?_, ?_, fun A i s Q E h1 q => wpAny_pyIter_keyiter h1 q⟩
  · rw [List.mem_singleton.mp hb]
    obtain ⟨o, g1, g2, g3⟩ := h1
    exact ⟨o, g1, fun v z => by rw [g3] at z; cases z⟩
  · rintro X rfl rfl rfl hc i pins s σ H E I fp h1 go
    have go : i < ks.length := go
    obtain ⟨k, t, e1, e2⟩ := hk i (by omega)
    refine wpAny_pyNext_keys_item_raw h1 (raw I.kIn) (by omega) fun h' h2 sb => ⟨_, rfl, ?_⟩
    refine letGo_keyiter h2 ?_
    have f := fp it (by simp)
    refine ⟨.str k, H, I.turned (fun b o hb g => (sb.2 b hb).trans g) f.1 f.2.1 f.2.2.2.1 f.2.2.2.2.1 f.2.2.2.2.2, ⟨t, e2⟩, ⟨rfl, k, e1, rfl⟩, h2, fun b hb => ?_⟩
    rw [List.mem_singleton.mp hb]; exact f.1
  · rintro X rfl rfl rfl hc i pins s σ H E I fp h1 st
    have st : ks.length ≤ i := st
    refine wpAny_pyNext_keys_end_raw (I.ok.hd hc) h1 (raw I.kIn) (by omega) fun h' ext => ⟨rfl, ?_⟩
    have f := fp it (by simp)
    exact I.turned ext f.1 f.2.1 f.2.2.2.1 f.2.2.2.2.1 f.2.2.2.2.2
def iKk (K : PySem.W.Frag) (te : TE) : TI := fun σ H R => te σ H fun x H1 => ∃ D ks, x = .ref D ∧ KdL K D ks ∧ R (ItK ks) H1
theorem pi_kk {X : Cx} {tg e : Expr} {te : TE} (K : PySem.W.Frag) (he : PE X e te) (hK : X.K = K := by rfl) : PI X tg e (iKk K te) := by
  subst hK
  refine ⟨fun pins s σ H R I h => ?_⟩
  refine thn (he.run pins s σ H _ I h) fun u s1 ⟨x, H1, I1, rx, D, ks, ex, ⟨es, n, hl, low, hz, hk⟩, r⟩ => ?_
  subst ex
  obtain rfl : u = Value.ref D := rx
  have hD := I1.kIn _ _ hl
  refine wpAny_pyIter_dict_raw low ⟨_, hD, ⟨rfl, rfl, rfl⟩, rfl⟩ ?_
  have kp : ∀ b o, s1.heap.get? b = some o → (s1.heap.push { cls := .type "dict_keyiterator", data := .fields #[.ref D, .int 0 0, .int (es.size : Nat) 0, .int (n : Nat) 0] }).get? b = some o := fun b o e => Heap.get?_push_of_some _ e
  refine ⟨_, [s1.heap.objs.size], _, ItK ks, H1, rfl, I1.kept (t' := s1.toks) kp, turn_K hl hz hk, ⟨_, Heap.get?_push_size _ rfl, rfl, rfl⟩, fun b hb => ?_, r⟩
  rw [List.mem_singleton.mp hb]
  exact I1.fpOk (Nat.le_refl _) (I1.hok.fresh (Nat.le_refl _))
theorem it_kk {g : Gd} {G : List Sl} {D : Addr} {ks : List Str} (h : KdL g.K D ks) : IT g (iKk g.K (tC (.ref D))) G (ks.map .str) := fun σ F H hh R r => by
  refine ⟨D, ks, rfl, h, r _ F H (Stp.refl hh.st.i) ⟨fun i F H _ _ hi => by rw [List.length_map] at hi; exact hi, fun F H _ _ => by rw [List.length_map]; exact Nat.le_refl _, fun i F H x H' d _ sb hd hy => ?_⟩⟩
  obtain ⟨rfl, k, hk, rfl⟩ := hy
  rw [List.getElem?_map, hk] at hd
  cases hd
  exact ⟨F, Stp.refl sb, .str _⟩
/-! dict(a written tuple of pairs) -/
/-- the tuple a is written: pairs of texts -/
def KpT (K : PySem.W.Frag) (a : Addr) (ps : List (Str × Str)) : Prop := ∃ (bs : List Addr) (n : Nat) (sl : Array (Option Value)), K.lookup a = some ⟨.type "tuple", none, .seq (bs.map Value.ref).toArray n, sl⟩ ∧ ps.length ≤ 1000 ∧
  Paired (fun b p => ∃ o n sl t u, K.lookup b = some ⟨.type "tuple", o, .seq #[.str p.1 t, .str p.2 u] n, sl⟩) bs ps
def rDictK (K : PySem.W.Frag) : List V → Hp → VK → Prop := fun xs H Q => ∃ (a : Addr) (ps : List (Str × Str)), xs = [.ref a] ∧ KpT K a ps ∧ ∀ p, H p = none → Q (.ref p) (upd H p (.dK (mergeK [] (ps.map fun q => (Sum.inr q.1, V.str q.2)))))
theorem cr_dictK {X : Cx} (hc : X.calm = true) : CallR X (.type "dict") (rDictK X.K) := by
  intro pins s σ H vs us Q I r h
  obtain ⟨a, ps, rfl, ⟨bs, n, sl, hl, hz, hp⟩, q⟩ := h
  rw [Vals.ref1 r]
  have hlen := Paired.length hp
  -- the pairs' own tokens
  have tok : ∃ prs : List (Key × Value), KV (ps.map fun q => ((Sum.inr q.1 : Key), V.str q.2)) prs ∧ prs.length = ps.length ∧ ∀ (j : Nat) (q : Key × Value), prs[j]? = some q → ∃ b u, (bs.map Value.ref).toArray[j]? = some (Value.ref b) ∧ IsTup s.heap b #[u, q.2] ∧ keyIs q.1 u = true := by
    clear q hl hz hlen
    induction hp with
    | nil => exact ⟨[], .nil, rfl, fun j q h => by simp at h⟩
    | @cons b p bs ps h t ih =>
      obtain ⟨prs, h1, h2, h3⟩ := ih
      obtain ⟨o, n', sl', tk, u, e⟩ := h
      refine ⟨(Sum.inr p.1, Value.str p.2 u) :: prs, .cons ⟨rfl, u, rfl⟩ h1, by rw [List.length_cons, List.length_cons, h2], fun j q hq => ?_⟩
      cases j with
      | zero =>
        cases hq
        refine ⟨b, Value.str p.1 tk, by simp, ⟨_, I.kIn _ _ e, rfl, n', rfl⟩, ?_⟩
        exact Froz.is_str (P := X.prog) (w := X.w) p.1 tk
      | succ j =>
        obtain ⟨b', u', e1, e2, e3⟩ := h3 j q hq
        refine ⟨b', u', ?_, e2, e3⟩
        rw [List.getElem?_toArray] at e1 ⊢
        exact e1
  obtain ⟨prs, kv, lp, hprs⟩ := tok
  refine call_dict_pairsT (prog := X.prog) (w := X.w) (I.ok.hd hc) (I.kIn _ _ hl) (by rw [List.size_toArray, List.length_map, hlen, lp]) (by rw [lp, sizeLine_eq]; omega) hprs fun h' tk d kp => ?_
  have dz : (s.heap.objs.size == sysModules) = false := beq_eq_false_iff_ne.mpr (Ne.symm (Nat.ne_of_lt I.big))
  have lm := length_mergeK (kvs := []) (more := ps.map fun q => ((Sum.inr q.1 : Key), V.str q.2))
  have ob : ObjOk X.prog X.w (upd H s.heap.objs.size (.dK (mergeK [] (ps.map fun q => ((Sum.inr q.1 : Key), V.str q.2))))) h' s.heap.objs.size (.dK (mergeK [] (ps.map fun q => ((Sum.inr q.1 : Key), V.str q.2)))) :=
    ⟨by rw [List.length_map] at lm; rw [sizeLine_eq]; have : ([] : List (Key × V)).length = 0 := rfl; omega, dz, merged [] prs, KV.merge kv .nil, d⟩
  exact ⟨.ref s.heap.objs.size, _, I.laid (t' := tk) kp (Nat.le_refl _) ob, rfl, q _ (I.hok.fresh (Nat.le_refl _))⟩
theorem uDictK {X : Cx} (K : PySem.W.Frag) (hc : X.calm = true) (hK : X.K = K := by rfl) : CallR X (.type "dict") (rDictK K) := by subst hK; exact cr_dictK hc
/-- what the text says of a written dict of tuples of pairs of texts -/
structure KdP (K : PySem.W.Frag) (w : World) (D : Addr) (tab : List (Str × List (Str × Str))) : Prop where
  kd : KdO K w D
  has : ∀ q ∈ tab, ∃ a, PySem.W.nsIn K D q.1 = some (some (.ref a)) ∧ KpT K a q.2
theorem kv_pairs {K : PySem.W.Frag} {F : Hp} : ∀ (ps : List (Str × Str)), KvOk K F (ps.map fun q => ((Sum.inr q.1 : Key), V.str q.2)) (ps.map fun q => (q.1, .str q.2))
  | [] => kv_nil
  | p :: ps => kv_mk rfl (.str _) (kv_pairs ps)
/-- dict(D[k]) -/
theorem eod_dictK {g : Gd} {G : List Sl} {w : World} {tk : TE} {D : Addr} {tab : List (Str × List (Str × Str))} {k : Str} {ps : List (Str × Str)} (T : KdP g.K w D tab) (h : B g tk G (.str k)) (m : (k, ps) ∈ tab) :
    EOD g (tCB (rDictK g.K) (tCons (tKIx g.K w (tC (.ref D)) tk) tNil)) G (putAll [] (ps.map fun q => (q.1, .str q.2))) := fun σ F H hh Q q => by
  refine h σ F H hh _ fun v F1 H1 s1 d1 => ?_
  cases d1
  obtain ⟨a, e, kp⟩ := T.has _ m
  refine ⟨D, k, _, .ref a, rfl, T.kd, rfl, e, rfl, a, ps, rfl, kp, fun p hp => ?_⟩
  have hh1 := hh.mono s1
  have st := s1.trans (Stp.mine (o := .dK (mergeK [] (ps.map fun q => ((Sum.inr q.1 : Key), V.str q.2)))) s1.i hp)
  exact q p _ F1 _ st (old_free s1 hp) (s1.i.free hp) upd_same (kv_mergeK (kv_pairs ps) kv_nil)
end DW
/-! methods that only read self and give a new dict of texts; defs that give a tuple of an own object and data -/
namespace DW
open PySem PySem.Spec PyProof.Rows L2
/-- the object at a, as a reader sees it -/
def ObR (K : PySem.W.Frag) (F : Hp) (a C : Addr) (fs : List (Str × PyData)) : Prop := ∃ dx ws, F a = some (.ins C dx ws) ∧ FsOk K F ws fs
theorem ObR.mono {K : PySem.W.Frag} {F F' : Hp} {a C : Addr} {fs : List (Str × PyData)} (h : ObR K F a C fs) (e : Ex F F') : ObR K F' a C fs := by
  obtain ⟨dx, ws, h1, h3⟩ := h
  exact ⟨dx, ws, e a _ h1 (fun _ z => by cases z), h3.mono e⟩
theorem bys_all {K : PySem.W.Frag} {F : Hp} : ∀ {us : List V} {ds : List PyData}, DpAll K F us ds → ByS K F us (ds.map .fz)
  | _, _, .nil => .nil
  | _, _, .cons h t => .fz h (bys_all t)
def spMC (K : PySem.W.Frag) (Tb : List Addr) (C : Addr) (R : List (Str × PyData) → List PyData → List (Str × PyData) → Prop) : Sp := fun vs H Q _ => ∃ F a us fs ds kvs, vs = .ref a :: us ∧ Sub F H ∧ (∀ P ∈ Tb, GxR.TabG H P) ∧ ObR K F a C fs ∧ DpAll K F us ds ∧ R fs ds kvs ∧
  ∀ D vs' F' H', Stp F H F' H' → H D = none → F' D = none → H' D = some (.dK vs') → KvOk K F' vs' kvs → Q (.ref D) H'
/-- a method that only reads self and gives data -/
def spMR (K : PySem.W.Frag) (Tb : List Addr) (C : Addr) (R : List (Str × PyData) → List PyData → PyData → Prop) : Sp := fun vs H Q _ => ∃ F a us fs ds d, vs = .ref a :: us ∧ Sub F H ∧ (∀ P ∈ Tb, GxR.TabG H P) ∧ ObR K F a C fs ∧ DpAll K F us ds ∧ R fs ds d ∧
  ∀ v F' H', Stp F H F' H' → Dp K F' v d → Q v H'
def RtD (g : Gd) (Q : VK) (kvs : List (Str × PyData)) : Prop := ∀ D vs F H, Stp g.F0 g.H0 F H → g.H0 D = none → F D = none → H D = some (.dK vs) → KvOk g.K F vs kvs → Q (.ref D) H
theorem kv_scal {K : PySem.W.Frag} {F F' : Hp} : ∀ {vs : List (Key × V)} {kvs : List (Str × PyData)}, (∀ p ∈ kvs, scalD p.2 = true) → KvOk K F vs kvs → KvOk K F' vs kvs
  | [], [], _, _ => kv_nil
  | [], _ :: _, _, h => by cases h.ks
  | _ :: _, [], _, h => by cases h.ks
  | (k, v) :: vs, (k', d) :: kvs, hs, h => by
    obtain ⟨a, b, c⟩ := kv_cons h
    have a : k = Sum.inr k' := a
    subst a
    exact kv_mk rfl (dp_scal (hs _ List.mem_cons_self) b) (kv_scal (fun p hp => hs p (List.mem_cons_of_mem _ hp)) c)
section
variable {P : Program} {w : World} {K : PySem.W.Frag} {mg : Str → Option Value} {base : Heap} {m qual n0 : Str} {st : Stmt} {f C : Addr} {fd : FuncData} {N ps : List Str} {k : Nat} {Tb : List Addr}
theorem mt_C (F : Fun K m qual st f fd) (Sc : FnScope N ps (defScope st)) (hM : Meth K C m f) (hb : Binds K fd ps []) {R : List (Str × PyData) → List PyData → List (Str × PyData) → Prop} (hlen : ∀ fs ds kvs, R fs ds kvs → ds.length + 1 = ps.length)
    (body : ∀ (cdv : Value) (A : Around) (outer : List Env) (s : Shared) (H : Hp) (E : XK), Room k (A.deeper (envOfC qual (defScope st) s.heap.objs.size f cdv)) →
      ∃ t, PSs (cxOf CX0 P w K mg base N qual (defScope st) f cdv A outer s H E).nox (defBody st) t ∧ ∀ (fs : List (Str × PyData)) (ds : List PyData) (kvs : List (Str × PyData)) (F0 H0 : Hp) (a : Addr) (Q : VK), R fs ds kvs → ObR K F0 a C fs → RtD ⟨K, Tb, F0, H0, F0⟩ Q kvs →
        S ⟨K, Tb, F0, H0, F0⟩ t { nx := fun _ H' => Q .non H', rt := Q } (startS N.length (.raw (.ref a) :: ds.map .fz))) :
    MtOk P w K mg base (k + 1) C m ps (spMC K Tb C R) := by
  refine ⟨f, fd, hM, F.ok Sc (fun vs H Q E h => ?_) (fun cdv A outer s H vs Q E hr h => ?_), hb⟩
  · obtain ⟨F1, a, us, fs, ds, kvs, rfl, _, _, _, hd, r, _⟩ := h
    rw [List.length_cons, dps_len hd]; exact hlen _ _ _ r
  · obtain ⟨F1, a, us, fs, ds, kvs, rfl, sb, ht, ob, hd, r, q⟩ := h
    obtain ⟨t, h1, h2⟩ := body cdv A outer s H E hr
    exact ⟨t, h1, h2 fs ds kvs F1 H a Q r ob q _ F1 H (holds_startS sb ht (.raw (bys_all hd)))⟩
theorem mt_R (F : Fun K m qual st f fd) (Sc : FnScope N ps (defScope st)) (hM : Meth K C m f) (hb : Binds K fd ps []) {R : List (Str × PyData) → List PyData → PyData → Prop} (hlen : ∀ fs ds d, R fs ds d → ds.length + 1 = ps.length)
    (body : ∀ (cdv : Value) (A : Around) (outer : List Env) (s : Shared) (H : Hp) (E : XK), Room k (A.deeper (envOfC qual (defScope st) s.heap.objs.size f cdv)) →
      ∃ t, PSs (cxOf CX0 P w K mg base N qual (defScope st) f cdv A outer s H E).nox (defBody st) t ∧ ∀ (fs : List (Str × PyData)) (ds : List PyData) (d : PyData) (F0 H0 : Hp) (a : Addr) (Q : VK), R fs ds d → ObR K F0 a C fs → Rt ⟨K, Tb, F0, H0, F0⟩ Q d →
        S ⟨K, Tb, F0, H0, F0⟩ t { nx := fun _ H' => Q .non H', rt := Q } (startS N.length (.raw (.ref a) :: ds.map .fz))) :
    MtOk P w K mg base (k + 1) C m ps (spMR K Tb C R) := by
  refine ⟨f, fd, hM, F.ok Sc (fun vs H Q E h => ?_) (fun cdv A outer s H vs Q E hr h => ?_), hb⟩
  · obtain ⟨F1, a, us, fs, ds, d, rfl, _, _, _, hd, r, _⟩ := h
    rw [List.length_cons, dps_len hd]; exact hlen _ _ _ r
  · obtain ⟨F1, a, us, fs, ds, d, rfl, sb, ht, ob, hd, r, q⟩ := h
    obtain ⟨t, h1, h2⟩ := body cdv A outer s H E hr
    exact ⟨t, h1, h2 fs ds d F1 H a Q r ob q _ F1 H (holds_startS sb ht (.raw (bys_all hd)))⟩
end
section
variable {g : Gd} {G : List Sl} {i j : Nat} {a C dx : Addr} {fs kvs : List (Str × PyData)} {n m : Str} {d z : PyData} {ds : List PyData} {te : TE} {ta : TA} {D : Ends} {tw : TS}
/-- self.n of an object that is only read -/
theorem e_fldR (hi : G[i]? = some (.raw (.ref a))) (ob : ObR g.K g.Fl a C fs) (hC : Cls g.K C) (hn : NoAttr g.K C n) (hl : fs.lookup n = some d) : E g (tFld g.K (tVar i) n) G d := fun σ F H hh Q q => by
  obtain ⟨o, eo, ok⟩ := hh.at_ hi
  obtain rfl : o = some (.ref a) := ok
  obtain ⟨dx, ws, h1, h3⟩ := ob.mono hh.lo
  have hH : H a = some (.ins C dx ws) := hh.st.i.ex a _ h1 fun _ z => by cases z
  obtain ⟨v, e1, e2⟩ := FsOk.get h3 hl
  exact ⟨.ref a, eo, a, C, dx, ws, v, rfl, hH, hC, hn, e1, q v F H (Stp.refl hh.st.i) e2⟩
/-- return found, a dict of our own -/
theorem s_retD0 (hj : G[j]? = some (.od kvs)) (k : RtD g D.rt kvs) : S g (tRet (tVar j)) D G := fun σ F H hh => by
  obtain ⟨o, eo, p, vs, rfl, q0, qF, qH, qd⟩ := hh.at_ hj
  exact ⟨_, eo, k p vs F H hh.st q0 qF qH qd⟩
/-- o.m(..), o our own object, m only reads it and gives a dict of scalars -/
theorem eod_methC {R : List (Str × PyData) → List PyData → List (Str × PyData) → Prop} {Ek : XK} (h : G[i]? = some (.ob (insC g.K a C dx fs))) (ha : A g ta G ds) (hm : fs.lookup m = none) (r : R fs ds kvs) (sc : ∀ p ∈ kvs, scalD p.2 = true) :
    EOD g (tMeth C m (spMC g.K g.T C R) [] Ek (tVar i) ta) G kvs := fun σ F H hh Q q => by
  obtain ⟨ws, eo, h0, hF, hH, fo⟩ := ins_own hh h
  refine ⟨.ref a, eo, a, dx, ws, rfl, hH, fs_none fo hm, ha σ F H hh _ fun us F1 H1 s1 d1 => ?_⟩
  have hh1 := hh.mono s1
  obtain ⟨ws1, eo1, h01, hF1, hH1, f1⟩ := ins_own hh1 h
  rw [List.append_nil]
  refine ⟨cut H1, a, us, fs, ds, kvs, rfl, sub_cut H1, hh1.tab, ⟨dx, ws1, cut_of hH1 ins_nt, (f1.mono hh1.st.i.ex).mono (ex_cut H1)⟩, (ex_cut H1).dps _ _ (s1.i.ex.dps ds us d1), r, fun D vs F2 H2 s2 h0 hF hH d2 => ?_⟩
  exact q D vs F1 H2 (s1.trans (Stp.back s1.i s2)) (old_free s1 h0) (s1.i.free h0) hH (kv_scal sc d2)
/-- .. and gives a scalar -/
theorem e_methR {R : List (Str × PyData) → List PyData → PyData → Prop} {Ek : XK} (h : G[i]? = some (.ob (insC g.K a C dx fs))) (ha : A g ta G ds) (hm : fs.lookup m = none) (r : R fs ds d) (sc : scalD d = true) :
    E g (tMeth C m (spMR g.K g.T C R) [] Ek (tVar i) ta) G d := fun σ F H hh Q q => by
  obtain ⟨ws, eo, h0, hF, hH, fo⟩ := ins_own hh h
  refine ⟨.ref a, eo, a, dx, ws, rfl, hH, fs_none fo hm, ha σ F H hh _ fun us F1 H1 s1 d1 => ?_⟩
  have hh1 := hh.mono s1
  obtain ⟨ws1, eo1, h01, hF1, hH1, f1⟩ := ins_own hh1 h
  rw [List.append_nil]
  refine ⟨cut H1, a, us, fs, ds, d, rfl, sub_cut H1, hh1.tab, ⟨dx, ws1, cut_of hH1 ins_nt, (f1.mono hh1.st.i.ex).mono (ex_cut H1)⟩, (ex_cut H1).dps _ _ (s1.i.ex.dps ds us d1), r, fun v F2 H2 s2 d2 => ?_⟩
  exact q v F1 H2 (s1.trans (Stp.back s1.i s2)) (dp_scal sc d2)
/-- x = te, te a new dict -/
theorem s_asgOD (h : EOD g te G kvs) (k : N g D.nx (G.set i (.od kvs))) : S g (tAsg te (gName i)) D G := fun σ F H hh => h σ F H hh _ fun p vs F1 H1 s1 h0 hF hH d1 =>
  k _ F1 H1 ((hh.mono s1).set (s := .od kvs) ⟨p, vs, rfl, old_free hh.st h0, hF, hH, d1⟩ fun _ j t _ e1 m e2 => new_ok hh h0 j ⟨t, e1, m⟩ e2)
theorem q_asgOD (h : EOD g te G kvs) (k : S g tw D (G.set i (.od kvs))) : S g (tSeq (tAsg te (gName i)) tw) D G := s_asgOD (D := { D with nx := tw D }) h k
end
/-! ### a tuple of an own object and data -/
structure TO (K : PySem.W.Frag) (H F' H' : Hp) (t a C dx : Addr) (zv : V) (fs : List (Str × PyData)) (z : PyData) : Prop where
  ht : H' t = some (.tup [.ref a, zv])
  ha : ∃ ws, H' a = some (.ins C dx ws) ∧ FsOk K F' ws fs
  nt : H t = none
  na : H a = none
  fa : F' a = none
  dz : Dp K F' zv z
def RtTO (g : Gd) (C : Addr) (rt : VK) (fs : List (Str × PyData)) (z : PyData) : Prop := ∀ t a dx zv F H, Stp g.F0 g.H0 F H → TO g.K g.H0 F H t a C dx zv fs z → rt (.ref t) H
def spTO (K : PySem.W.Frag) (Tb : List Addr) (C : Addr) (R : List PyData → List (Str × PyData) → PyData → Prop) : Sp := fun vs H Q _ => ∃ F ds fs z, Sub F H ∧ (∀ P ∈ Tb, GxR.TabG H P) ∧ DpAll K F vs ds ∧ R ds fs z ∧
  ∀ t a dx zv F' H', Stp F H F' H' → TO K H F' H' t a C dx zv fs z → Q (.ref t) H'
section
variable {g : Gd} {G : List Sl} {i j : Nat} {a C dx : Addr} {fs : List (Str × PyData)} {z : PyData} {ds : List PyData} {te : TE} {ta : TA} {D : Ends} {tw : TS}
/-- return o, te -/
theorem s_retTO (h : G[i]? = some (.ob (insC g.K a C dx fs))) (he : E g te G z) (k : RtTO g C D.rt fs z) : S g (tRet (tTup (tCons (tVar i) (tCons te tNil)))) D G := fun σ F H hh => by
  obtain ⟨ws0, eo0, _⟩ := ins_own hh h
  refine ⟨.ref a, eo0, he σ F H hh _ fun zv F1 H1 s1 d1 => ?_⟩
  have hh1 := hh.mono s1
  obtain ⟨ws, eo, h0, hF, hH, f⟩ := ins_own hh1 h
  refine ⟨by show 2 ≤ sizeLine; decide, fun t ht => ?_⟩
  have st : Stp F1 H1 F1 (upd H1 t (.tup [.ref a, zv])) := Stp.mine s1.i ht
  refine k t a dx zv F1 _ (hh1.st.trans st) ⟨upd_same, ⟨ws, ?_, f⟩, old_free hh1.st ht, h0, hF, d1⟩
  rw [upd_ne (fun e => by rw [e, ht] at hH; cases hH)]
  exact hH
/-- o, x = f(..) -/
theorem q_unpTO {R : List PyData → List (Str × PyData) → PyData → Prop} {Ek : XK} (ha : A g ta G ds) (r : R ds fs z) (hij : i ≠ j) (hi : i < G.length) (k : ∀ a dx, S g tw D ((G.set i (.ob (insC g.K a C dx fs))).set j (.fz z))) :
    S g (tSeq (tAsg (tCall (spTO g.K g.T C R) [] Ek ta) (gTup g.K 2 (gCons (gName i) (gCons (gName j) gNil)))) tw) D G := fun σ F H hh => ha σ F H hh _ fun us F1 H1 s1 d1 => by
  rw [List.append_nil]
  refine ⟨F1, ds, fs, z, s1.i, (hh.mono s1).tab, d1, r, fun t a dx zv F2 H2 s2 x => ?_⟩
  have st := s1.trans s2
  have hh2 := hh.mono st
  obtain ⟨ws, hH, fo⟩ := x.ha
  refine ⟨t, [.ref a, zv], rfl, .inl (.inl x.ht), rfl, .ref a, [zv], rfl, zv, [], rfl, rfl, ?_⟩
  have na0 : H a = none := old_free s1 x.na
  have h3 := hh2.set (i := i) (v := .ref a) (s := .ob (insC g.K a C dx fs)) ⟨a, _, rfl, old_free hh.st na0, x.fa, hH, ins_nt, fun F' e => ⟨rfl, ws, rfl, fo.mono e⟩⟩ fun _ j t _ e1 m e2 => new_ok hh na0 j ⟨t, e1, m⟩ e2
  exact k a dx _ F2 H2 (h3.setF x.dz)
end
section
variable {P : Program} {w : World} {K : PySem.W.Frag} {mg : Str → Option Value} {base : Heap} {x qual : Str} {st : Stmt} {f C : Addr} {fd : FuncData} {Nn ps : List Str} {k : Nat} {Tb : List Addr}
theorem df_TO (F : Fun K x qual st f fd) (Sc : FnScope Nn ps (defScope st)) (hm : mg x = some (.ref f)) (hb : Binds K fd ps []) {R : List PyData → List (Str × PyData) → PyData → Prop} (hlen : ∀ ds fs z, R ds fs z → ds.length = ps.length)
    (body : ∀ (cdv : Value) (A : Around) (outer : List Env) (s : Shared) (H : Hp) (E : XK), Room k (A.deeper (envOfC qual (defScope st) s.heap.objs.size f cdv)) →
      ∃ t, PSs (cxOf CX0 P w K mg base Nn qual (defScope st) f cdv A outer s H E).nox (defBody st) t ∧ ∀ (ds : List PyData) (fs : List (Str × PyData)) (z : PyData) (F0 H0 : Hp) (Q : VK), R ds fs z → RtTO ⟨K, Tb, F0, H0, F0⟩ C Q fs z → S ⟨K, Tb, F0, H0, F0⟩ t { nx := fun _ H' => Q .non H', rt := Q } (startG Nn.length ds)) :
    Df P w K mg base (k + 1) x ps (spTO K Tb C R) := by
  refine ⟨f, fd, F.ok Sc (fun vs H Q E h => ?_) (fun cdv A outer s H vs Q E hr h => ?_), hm, F.kp, hb⟩
  · obtain ⟨F, ds, fs, z, _, _, hd, r, _⟩ := h
    exact (dps_len hd).trans (hlen ds fs z r)
  · obtain ⟨F1, ds, fs, z, sb, ht, hd, r, q⟩ := h
    obtain ⟨t, h1, h2⟩ := body cdv A outer s H E hr
    exact ⟨t, h1, h2 ds fs z F1 H Q r q _ F1 H (holds_start sb ht hd)⟩
end
end DW
/-! tests and statements that change one own slot: not o.m(..), o.m(..) as a statement; y not in d -/
namespace DW
open PySem PySem.Spec PyProof.Rows L2
section
variable {g : Gd} {G : List Sl} {te : TE} {tt : TT} {tw : TS} {d : PyData} {i : Nat} {D : Ends} {s' : Sl} {b : Bool}
theorem tg_tru (h : EG g i te G s' d) (e : truD d = some b) : TGi g i (tTru g.K te) G s' b := fun σ F H hh Q q => h σ F H hh _ fun v F1 H1 s1 hh1 d1 => ⟨b, tru_of e (hh1.st.i.ex.dp _ _ d1), q F1 H1 s1 hh1⟩
theorem tg_not (h : TGi g i tt G s' b) : TGi g i (tNot tt) G s' (!b) := fun σ F H hh Q q => h σ F H hh _ fun F1 H1 s1 hh1 => q F1 H1 s1 hh1
theorem s_exprG (h : EG g i te G s' d) (k : N g D.nx (G.set i s')) : S g (tDrop te) D G := fun σ F H hh => h σ F H hh _ fun v F1 H1 s1 hh1 d1 => k σ F1 H1 hh1
theorem q_exprG (h : EG g i te G s' d) (k : S g tw D (G.set i s')) : S g (tSeq (tDrop te) tw) D G := s_exprG (D := { D with nx := tw D }) h k
theorem t_dnin {kvs : List (Str × PyData)} {ty : TE} {k : Str} (h : (G[i]?).bind Sl.kv = some kvs) (hk : E g ty G (.str k)) : T g (tB (tDNotIn ty (tVar i))) G (!(getK kvs k).isSome) := fun σ F H hh Q q => hk σ F H hh _ fun u F1 H1 s1 d1 => by
  cases d1
  obtain ⟨p, vs, ev, hr, hv⟩ := dict_at (hh.mono s1) h
  have e : (valV vs (Sum.inr k : Key)).isSome = (getK kvs k).isSome := by
    cases e : getK kvs k with
    | none => rw [(kv_get hv).2 e]; rfl
    | some d => obtain ⟨v, e1, _⟩ := (kv_get hv).1 d e; rw [e1]; rfl
  refine ⟨.ref p, ev, p, valV vs (Sum.inr k : Key), rfl, .inl ⟨vs, .inr k, hr, rfl, rfl⟩, ?_⟩
  rw [e]
  exact ⟨_, rfl, q F1 H1 s1⟩
end
end DW
/-! a displayed dict of 18 to 32 entries whose keys are tuples (of any depth, all different) -/
namespace DW
open PySem PySem.Spec PyProof.Rows L2
/-! ### by values -/
/-! ### by data -/
end DW
/-! objects with own lists and dicts below their fields: a region of the heap beside the slots (Gst), walks that change it (HR, ER, TR, AR, SR), methods (spF, mt_F, er_meth) -/
namespace DW
open PySem PySem.Spec PyProof.Rows L2
open Classical in
noncomputable def wo (L : Addr → Prop) (H : Hp) : Hp := fun b => if L b then none else H b
section
variable {L : Addr → Prop} {H : Hp} {b : Addr} {o : HO}
theorem wo_in (h : L b) : wo L H b = none := by unfold wo; rw [if_pos h]
theorem wo_out (h : ¬ L b) : wo L H b = H b := by unfold wo; rw [if_neg h]
theorem wo_some (h : wo L H b = some o) : ¬ L b ∧ H b = some o := by
  by_cases hl : L b
  · rw [wo_in hl] at h; cases h
  · rw [wo_out hl] at h; exact ⟨hl, h⟩
end
def Own (G : List Sl) (σ : L2.St) (p : Addr) : Prop := ∃ (j : Nat) (t : Sl), G[j]? = some t ∧ t.mine = true ∧ σ[j]? = some (some (V.ref p))
section
variable {g : Gd} {G : List Sl} {σ : L2.St} {F H F' H' F1 H1 : Hp} {p : Addr} {L : Addr → Prop}
theorem own_at (hh : Holds g G σ F H) (o : Own G σ p) : g.H0 p = none ∧ F p = none ∧ ∃ u, H p = some u ∧ ∀ ps, u ≠ .tbl ps := by
  obtain ⟨j, t, e1, m, e2⟩ := o
  have q := hh.sl j t _ e1 e2
  cases t with
  | un => cases m
  | fz d => cases m
  | raw v => cases m
  | fk k => cases m
  | ow ds =>
    obtain ⟨r, vs, e, q0, qF, qH, _⟩ := q
    cases e
    exact ⟨q0, qF, _, qH, fun _ z => by cases z⟩
  | od ds =>
    obtain ⟨r, vs, e, q0, qF, qH, _⟩ := q
    cases e
    exact ⟨q0, qF, _, qH, fun _ z => by cases z⟩
  | ob C =>
    obtain ⟨r, u, e, q0, qF, qH, qn, _⟩ := q
    cases e
    exact ⟨q0, qF, _, qH, qn⟩
theorem stp_wo_self (sb : Sub F H) : Stp F (wo L H) F H :=
  ⟨Ex.refl F, sb, fun a o e _ => (wo_some e).2, fun a o e => ⟨o, (wo_some e).2⟩, fun P t => by
    obtain ⟨ps, e, r⟩ := t
    exact ⟨ps, (wo_some e).2, r⟩, fun _ _ _ n => n⟩
/-- what is ours is not in the target's old part -/
theorem Stp.wo (s : Stp F H F' H') (hL : ∀ p, L p → H p = none) (hF : ∀ p, L p → F' p = none) : Stp F H F' (wo L H') := by
  refine ⟨s.f, ⟨fun a o e n => ?_, s.i.nt⟩, fun a o e n => ?_, fun a o e => ?_, fun P t => ?_, s.n⟩
  · have na : ¬ L a := fun h => by rw [hF a h] at e; cases e
    rw [wo_out na]; exact s.i.ex a o e n
  · have na : ¬ L a := fun h => by rw [hL a h] at e; cases e
    rw [wo_out na]; exact s.h a o e n
  · have na : ¬ L a := fun h => by rw [hL a h] at e; cases e
    rw [wo_out na]; exact s.s a o e
  · obtain ⟨ps, e, r⟩ := s.t P t
    have na : ¬ L P := fun h => by
      obtain ⟨ps0, e0, _⟩ := t
      rw [hL P h] at e0; cases e0
    exact ⟨ps, by rw [wo_out na]; exact e, r⟩
theorem Holds.restart (hh : Holds g G σ F H) (ex : Ex F F') (sb : Sub F' H') (tb : ∀ P ∈ g.T, GxR.TabG H' P) (keep : ∀ p u, Own G σ p → H p = some u → (∀ ps, u ≠ .tbl ps) → H' p = some u ∧ F' p = none) :
    Holds ⟨g.K, g.T, F', DW.wo (Own G σ) H', F'⟩ G σ F' H' := by
  refine ⟨hh.len, stp_wo_self sb, fun j s o e1 e2 => ?_, hh.apart, tb, Ex.refl F'⟩
  have q := hh.sl j s o e1 e2
  cases s with
  | un => trivial
  | fz d => obtain ⟨v, ev, hv⟩ := q; exact ⟨v, ev, ex.dp d v hv⟩
  | raw v => exact q
  | ow es =>
    obtain ⟨r, ws, er, q0, qF, qH, qd⟩ := q
    have ow : Own G σ r := ⟨j, _, e1, rfl, by rw [e2, er]⟩
    obtain ⟨k1, k2⟩ := keep r _ ow qH fun _ z => by cases z
    exact ⟨r, ws, er, wo_in ow, k2, k1, ex.dps es ws qd⟩
  | od es =>
    obtain ⟨r, ws, er, q0, qF, qH, qd⟩ := q
    have ow : Own G σ r := ⟨j, _, e1, rfl, by rw [e2, er]⟩
    obtain ⟨k1, k2⟩ := keep r _ ow qH fun _ z => by cases z
    exact ⟨r, ws, er, wo_in ow, k2, k1, qd.mono ex⟩
  | fk es =>
    obtain ⟨r, ws, er, hr, qd⟩ := q
    exact ⟨r, ws, er, ex.rd hr (fun _ z => by cases z), qd.mono ex⟩
  | ob C =>
    obtain ⟨r, u, er, q0, qF, qH, qn, qC⟩ := q
    have ow : Own G σ r := ⟨j, _, e1, rfl, by rw [e2, er]⟩
    obtain ⟨k1, k2⟩ := keep r _ ow qH qn
    exact ⟨r, u, er, wo_in ow, k2, k1, qn, fun F2 e2 => qC F2 (ex.trans e2)⟩
end
/-- a region L of the heap in a state: Ψ tells of it alone -/
structure Gst (L : Addr → Prop) where
  Ψ : Hp → Hp → Prop
  own : ∀ F H, Ψ F H → ∀ p, L p → F p = none ∧ ∃ u, H p = some u ∧ ∀ ps, u ≠ .tbl ps
  mov : ∀ F H F' H', Ψ F H → Ex F F' → (∀ p, L p → H' p = H p) → (∀ p, L p → F' p = none) → Ψ F' H'
def HR (b : Gd) {L : Addr → Prop} (Γ : Gst L) (G : List Sl) (σ : L2.St) (F H : Hp) : Prop := (∀ p, L p → b.H0 p = none) ∧ ∃ F0 H0 Fl, Γ.Ψ F0 H0 ∧ Stp b.F0 b.H0 F0 H0 ∧ Ex b.Fl Fl ∧ Holds ⟨b.K, b.T, F0, H0, Fl⟩ G σ F H
section
variable {b : Gd} {L : Addr → Prop} {Γ Γ' Γ1 Γ2 : Gst L} {G G' : List Sl} {σ : L2.St} {F H F' H' F0 H0 Fl : Hp}
theorem Gst.stp (h : Γ.Ψ F H) (s : Stp F H F' H') : Γ.Ψ F' H' := Γ.mov F H F' H' h s.f (fun p hp => by
    obtain ⟨_, u, e, n⟩ := Γ.own F H h p hp
    rw [e]; exact s.h p u e n) fun p hp => by
    obtain ⟨e0, u, e, n⟩ := Γ.own F H h p hp
    exact s.n p u e e0
theorem HR.psi (h : HR b Γ G σ F H) : Γ.Ψ F H := by
  obtain ⟨_, F0, H0, Fl, p, s, _, hh⟩ := h
  exact Gst.stp p hh.st
theorem HR.st (h : HR b Γ G σ F H) : Stp b.F0 b.H0 F H := by
  obtain ⟨_, F0, H0, Fl, p, s, _, hh⟩ := h
  exact s.trans hh.st
theorem HR.tab (h : HR b Γ G σ F H) : ∀ P ∈ b.T, GxR.TabG H P := by
  obtain ⟨_, F0, H0, Fl, p, s, _, hh⟩ := h
  exact hh.tab
theorem HR.mono (h : HR b Γ G σ F H) (s : Stp F H F' H') : HR b Γ G σ F' H' := by
  obtain ⟨hL, F0, H0, Fl, p, s0, l0, hh⟩ := h
  exact ⟨hL, F0, H0, Fl, p, s0, l0, hh.mono s⟩
theorem HR.own (h : HR b Γ G σ F H) {p : Addr} (o : Own G σ p) : ¬ L p ∧ b.H0 p = none ∧ F p = none ∧ ∃ u, H p = some u ∧ ∀ ps, u ≠ .tbl ps := by
  obtain ⟨hL, F0, H0, Fl, p0, s0, l0, hh⟩ := h
  obtain ⟨e0, e1, e2⟩ := own_at hh o
  refine ⟨fun l => ?_, old_free s0 e0, e1, e2⟩
  obtain ⟨_, u, e, _⟩ := Γ.own F0 H0 p0 p l
  rw [show H0 p = none from e0] at e; cases e
theorem HR.wk (h : HR b Γ G σ F H) (w : Wk G G') : HR b Γ G' σ F H := by
  obtain ⟨hL, F0, H0, Fl, p, s0, l0, hh⟩ := h
  exact ⟨hL, F0, H0, Fl, p, s0, l0, hh.wk w⟩
/-- the region changes -/
theorem HR.change (h : HR b Γ G σ F H) (ex : Ex F F') (st : Stp b.F0 b.H0 F' H') (tb : ∀ P ∈ b.T, GxR.TabG H' P) (ps : Γ'.Ψ F' H') (keep : ∀ p u, ¬ L p → F p = none → H p = some u → (∀ ps, u ≠ .tbl ps) → H' p = some u ∧ F' p = none) : HR b Γ' G σ F' H' := by
  have ow := fun p (o : Own G σ p) => h.own o
  obtain ⟨hL, F0, H0, Fl, p0, s0, l0, hh⟩ := h
  have hh2 := hh.restart ex st.i tb fun p u o e n => keep p u (ow p o).1 (ow p o).2.2.1 e n
  refine ⟨hL, F', DW.wo (Own G σ) H', F', ?_, st.wo (fun p o => (ow p o).2.1) (fun p o => ?_), l0.trans (hh.lo.trans ex), hh2⟩
  · exact Γ'.mov F' H' F' _ ps (Ex.refl F') (fun p hp => wo_out fun o => (ow p o).1 hp) fun p hp => (Γ'.own F' H' ps p hp).1
  · obtain ⟨n1, _, e1, u, e2, n2⟩ := ow p o
    exact (keep p u n1 e1 e2 n2).2
end
/-! ### judgements -/
def ER (b : Gd) {L : Addr → Prop} (te : TE) (G : List Sl) (Γ Γ' : Gst L) (d : PyData) : Prop := ∀ σ F H, HR b Γ G σ F H → ∀ Q : VK, (∀ v F' H', Ex F F' → HR b Γ' G σ F' H' → Dp b.K F' v d → Q v H') → te σ H Q
def TR (b : Gd) {L : Addr → Prop} (tt : TT) (G : List Sl) (Γ Γ' : Gst L) (c : Bool) : Prop := ∀ σ F H, HR b Γ G σ F H → ∀ Q : Bool → Hp → Prop, (∀ F' H', Ex F F' → HR b Γ' G σ F' H' → Q c H') → tt σ H Q
def AR (b : Gd) {L : Addr → Prop} (ta : TA) (G : List Sl) (Γ Γ' : Gst L) (ds : List PyData) : Prop := ∀ σ F H, HR b Γ G σ F H → ∀ Q : List V → Hp → Prop, (∀ vs F' H', Ex F F' → HR b Γ' G σ F' H' → DpAll b.K F' vs ds → Q vs H') → ta σ H Q
def SR (b : Gd) {L : Addr → Prop} (t : TS) (D : Ends) (G : List Sl) (Γ : Gst L) : Prop := ∀ σ F H, HR b Γ G σ F H → t D σ H
def NR (b : Gd) {L : Addr → Prop} (nx : L2.St → Hp → Prop) (G : List Sl) (Γ : Gst L) : Prop := ∀ σ F H, HR b Γ G σ F H → nx σ H
section
variable {b : Gd} {L : Addr → Prop} {Γ Γ' Γ1 Γ2 : Gst L} {G G' : List Sl} {te ta tb : TE} {tt tu : TT} {t1 t2 tw : TS} {d x y z : PyData} {ds es : List PyData} {i j : Nat} {D : Ends} {c c1 c2 : Bool} {tg : TG} {ix : List Nat} {tas tr : TA}
theorem er_E (h : ∀ F0 H0 Fl, Γ.Ψ F0 H0 → E ⟨b.K, b.T, F0, H0, Fl⟩ te G d) : ER b te G Γ Γ d := fun σ F H hh Q q => by
  obtain ⟨hL, F0, H0, Fl, p, s0, l0, h0⟩ := hh
  exact h F0 H0 Fl p σ F H h0 Q fun v F1 H1 s1 d1 => q v F1 H1 s1.f ⟨hL, F0, H0, Fl, p, s0, l0, h0.mono s1⟩ d1
theorem tr_T (h : ∀ F0 H0 Fl, Γ.Ψ F0 H0 → T ⟨b.K, b.T, F0, H0, Fl⟩ tt G c) : TR b tt G Γ Γ c := fun σ F H hh Q q => by
  obtain ⟨hL, F0, H0, Fl, p, s0, l0, h0⟩ := hh
  exact h F0 H0 Fl p σ F H h0 Q fun F1 H1 s1 => q F1 H1 s1.f ⟨hL, F0, H0, Fl, p, s0, l0, h0.mono s1⟩
theorem ar_A (h : ∀ F0 H0 Fl, Γ.Ψ F0 H0 → A ⟨b.K, b.T, F0, H0, Fl⟩ tas G ds) : AR b tas G Γ Γ ds := fun σ F H hh Q q => by
  obtain ⟨hL, F0, H0, Fl, p, s0, l0, h0⟩ := hh
  exact h F0 H0 Fl p σ F H h0 Q fun v F1 H1 s1 d1 => q v F1 H1 s1.f ⟨hL, F0, H0, Fl, p, s0, l0, h0.mono s1⟩ d1
/-- a walk that leaves the region alone -/
theorem sr_S (h : ∀ F0 H0 Fl, Γ.Ψ F0 H0 → Stp b.F0 b.H0 F0 H0 → S ⟨b.K, b.T, F0, H0, Fl⟩ t1 D G) : SR b t1 D G Γ := fun σ F H hh => by
  obtain ⟨hL, F0, H0, Fl, p, s0, l0, h0⟩ := hh
  exact h F0 H0 Fl p s0 σ F H h0
theorem er_op {r : R2} (ha : ER b ta G Γ Γ1 x) (hb : ER b tb G Γ1 Γ2 y) (hr : RB b r x y d) (hs : scalD d = true) : ER b (tOp r ta tb) G Γ Γ2 d := fun σ F H hh Q q =>
  ha σ F H hh _ fun u F1 H1 s1 hh1 d1 => hb σ F1 H1 hh1 _ fun v F2 H2 s2 hh2 d2 => hr u v H2 (hh2.st.i.ex.dp x u (s2.dp x u d1)) (hh2.st.i.ex.dp y v d2) Q fun z d3 => q z F2 H2 (s1.trans s2) hh2 (dp_scal hs d3)
theorem er_opR {r : R2} (ha : ER b ta G Γ Γ1 x) (hb : ER b tb G Γ1 Γ2 y) (hr : R b r x y d) : ER b (tOp r ta tb) G Γ Γ2 d := fun σ F H hh Q q =>
  ha σ F H hh _ fun u F1 H1 s1 hh1 d1 => hb σ F1 H1 hh1 _ fun v F2 H2 s2 hh2 d2 => hr u v F2 H2 hh2.st.i (s2.dp x u d1) d2 Q fun z F3 H3 s3 d3 => q z F3 H3 ((s1.trans s2).trans s3.f) (hh2.mono s3) d3
theorem er_neg {k : Int} (h : ER b te G Γ Γ' (.int k)) : ER b (tUn (rU fun i => .int (-i)) te) G Γ Γ' (.int (-k)) := fun σ F H hh Q q =>
  h σ F H hh _ fun v F1 H1 s1 hh1 d1 => by cases d1; exact ⟨k, rfl, q _ F1 H1 s1 hh1 (.int _)⟩
theorem tr_test (h : ER b te G Γ Γ' (.bool c)) : TR b (tTest te) G Γ Γ' c := fun σ F H hh Q q => h σ F H hh _ fun v F1 H1 s1 hh1 d1 => by cases d1; exact ⟨c, rfl, q F1 H1 s1 hh1⟩
theorem tr_and (h1 : TR b tt G Γ Γ c1) (h2 : c1 = true → TR b tu G Γ Γ c2) : TR b (tAnd tt tu) G Γ Γ (c1 && c2) := fun σ F H hh Q q => h1 σ F H hh _ fun F1 H1 s1 hh1 => by
  cases c1 with
  | true => exact h2 rfl σ F1 H1 hh1 _ fun F2 H2 s2 hh2 => q F2 H2 (s1.trans s2) hh2
  | false => exact q F1 H1 s1 hh1
theorem ar_nil : AR b tNil G Γ Γ [] := fun σ F H hh Q q => q [] F H (Ex.refl F) hh .nil
theorem ar_cons (h : ER b te G Γ Γ1 d) (hr : AR b tr G Γ1 Γ2 ds) : AR b (tCons te tr) G Γ Γ2 (d :: ds) := fun σ F H hh Q q =>
  h σ F H hh _ fun v F1 H1 s1 hh1 d1 => hr σ F1 H1 hh1 _ fun vs F2 H2 s2 hh2 d2 => q (v :: vs) F2 H2 (s1.trans s2) hh2 (.cons (s2.dp d v d1) d2)
theorem er_tup (h : AR b tas G Γ Γ' ds) (hl : ds.length ≤ 100000) : ER b (tTup tas) G Γ Γ' (.tuple ds) := fun σ F H hh Q q => h σ F H hh _ fun vs F1 H1 s1 hh1 d1 =>
  ⟨by rw [dps_len d1]; exact Nat.le_trans hl (by decide), fun p hp => by
    have st := Stp.new (o := .tup vs) hh1.st.i hp fun _ z => by cases z
    exact q (.ref p) _ _ (s1.trans st.f) (hh1.mono st) (.tup (.inl (.inl upd_same)) (st.f.dps ds vs d1))⟩
/-! ### statements -/
theorem HR.setF {σ : L2.St} {F H : Hp} (h : HR b Γ G σ F H) {v : V} (hd : Dp b.K F v d) : HR b Γ (G.set i (.fz d)) (σ.set i (some v)) F H := by
  obtain ⟨hL, F0, H0, Fl, p, s0, l0, hh⟩ := h
  exact ⟨hL, F0, H0, Fl, p, s0, l0, hh.setF hd⟩
theorem sr_next (h : NR b D.nx G Γ) : SR b tNext D G Γ := h
theorem nr_go {rt : VK} {bk ct : L2.St → Hp → Prop} (h : SR b tw D G Γ) : NR b ({ nx := tw D, rt := rt, bk := bk, ct := ct } : Ends).nx G Γ := h
theorem r_asg (h : ER b te G Γ Γ' d) (k : SR b tw D (G.set i (.fz d)) Γ') : SR b (tSeq (tAsg te (gName i)) tw) D G Γ := fun σ F H hh => h σ F H hh _ fun v F1 H1 s1 hh1 d1 => k _ F1 H1 (hh1.setF d1)
theorem r_asgT (h : ER b te G Γ Γ' d) (ht : ∀ F0 H0 Fl, Tg ⟨b.K, b.T, F0, H0, Fl⟩ tg d G G' ix) (k : SR b tw D G' Γ') : SR b (tSeq (tAsg te tg) tw) D G Γ := fun σ F H hh => h σ F H hh _ fun v F1 H1 s1 hh1 d1 => by
  obtain ⟨hL, F0, H0, Fl, p, s0, l0, h0⟩ := hh1
  exact ht F0 H0 Fl v σ F1 H1 h0 d1 _ fun σ' h' _ => k σ' F1 H1 ⟨hL, F0, H0, Fl, p, s0, l0, h'⟩
theorem sr_expr (h : ER b te G Γ Γ' d) (k : NR b D.nx G Γ') : SR b (tDrop te) D G Γ := fun σ F H hh => h σ F H hh _ fun v F1 H1 s1 hh1 d1 => k σ F1 H1 hh1
theorem r_expr (h : ER b te G Γ Γ' d) (k : SR b tw D G Γ') : SR b (tSeq (tDrop te) tw) D G Γ := sr_expr (D := { D with nx := tw D }) h k
theorem sr_if (h : TR b tt G Γ Γ' c) (h1 : c = true → SR b t1 D G Γ') (h2 : c = false → SR b t2 D G Γ') : SR b (tIfS tt t1 t2) D G Γ := fun σ F H hh => h σ F H hh _ fun F1 H1 s1 hh1 => by
  cases c with
  | true => exact h1 rfl σ F1 H1 hh1
  | false => exact h2 rfl σ F1 H1 hh1
theorem r_if (h : TR b tt G Γ Γ' c) (h1 : c = true → SR b t1 { D with nx := tw D } G Γ') (h2 : c = false → SR b t2 { D with nx := tw D } G Γ') : SR b (tSeq (tIfS tt t1 t2) tw) D G Γ := sr_if (D := { D with nx := tw D }) h h1 h2
def RtF (b : Gd) {L : Addr → Prop} (Γ : Gst L) (Q : VK) (d : PyData) : Prop := ∀ v F H, Stp b.F0 b.H0 F H → Γ.Ψ F H → Dp b.K F v d → Q v H
theorem sr_ret (h : ER b te G Γ Γ' d) (k : RtF b Γ' D.rt d) : SR b (tRet te) D G Γ := fun σ F H hh => h σ F H hh _ fun v F1 H1 s1 hh1 d1 => k v F1 H1 hh1.st hh1.psi d1
theorem nr_ret {Q : VK} (k : RtF b Γ Q .none) : NR b (fun _ H' => Q .non H') G Γ := fun σ F H hh => k .non F H hh.st hh.psi .non
theorem Holds.app {g : Gd} {σ : L2.St} {F1 H1 : Hp} {p : Addr} {vs : List V} {v : V} (base : Holds g G σ F1 H1) (h : G[i]? = some (.ow ds)) (e : σ[i]? = some (some (.ref p))) (h0 : g.H0 p = none) (hF1 : F1 p = none) (hH1 : H1 p = some (.lst vs)) (hd : DpAll g.K F1 vs ds) (d1 : Dp g.K F1 v d) :
    Holds g (G.set i (.ow (ds ++ [d]))) σ F1 (upd H1 p (.lst (vs ++ [v]))) := by
  have hi : i < σ.length := (List.getElem?_eq_some_iff.mp e).1
  have hs : σ.set i (some (.ref p)) = σ := by
    apply List.ext_getElem?
    intro j
    by_cases hj : i = j
    · subst hj; rw [List.getElem?_set_self hi, e]
    · rw [List.getElem?_set_ne hj]
  have h1 : Holds g (G.set i .un) σ F1 H1 := base.weak (by rw [List.length_set]) fun j s ej => by
    by_cases hj : i = j
    · subst hj; rw [List.getElem?_set_self (by rw [← base.len]; exact hi)] at ej; cases ej; exact .inl rfl
    · rw [List.getElem?_set_ne hj] at ej; exact .inr ej
  have other : ∀ (j : Nat) (t : Sl), j ≠ i → G[j]? = some t → t.mine = true → σ[j]? ≠ some (some (.ref p)) := fun j t hj ej m z => hj (base.apart j i t (.ow ds) p ej h m rfl z e)
  have h2 : Holds g (G.set i .un) σ F1 (upd H1 p (.lst (vs ++ [v]))) := h1.mut h0 hF1 hH1 (fun _ z => by cases z) fun j t ej m => by
    by_cases hj : i = j
    · subst hj; rw [List.getElem?_set_self (by rw [← base.len]; exact hi)] at ej; cases ej; cases m
    · rw [List.getElem?_set_ne hj] at ej; exact other j t (Ne.symm hj) ej m
  have h3 := h2.setO (i := i) (ds := ds ++ [d]) h0 hF1 upd_same (dps_app hd (.cons d1 .nil)) fun j hj ⟨t, ej, m⟩ => by
    rw [List.getElem?_set_ne (Ne.symm hj)] at ej; exact other j t hj ej m
  rw [List.set_set, hs] at h3
  exact h3
/-- xs.append(te), xs a list of our own in a slot -/
theorem sr_app (h : G[i]? = some (.ow ds)) (he : ER b te G Γ Γ' d) (hz : ds.length < 100000) (k : NR b D.nx (G.set i (.ow (ds ++ [d]))) Γ') : SR b (tDrop (tBM b.K "list" rAppend (tVar i) (tCons te tNil))) D G Γ := fun σ F H hh => by
  have hh0 := hh
  obtain ⟨hL, F0, H0, Fl, p0, s0, l0, h0⟩ := hh0
  obtain ⟨o, e, p, vs, ev, _, hF, hH, hd⟩ := h0.at_ h
  subst ev
  refine ⟨.ref p, e, .inl ⟨rfl, vs, .inl (.inl hH)⟩, he σ F H hh _ fun v F1 H1 s1 hh1 d1 => ?_⟩
  obtain ⟨hL1, F2, H2, Fl2, p2, s2, l2, h2⟩ := hh1
  obtain ⟨o', e', p', vs', ev', h0', hF', hH', hd'⟩ := h2.at_ h
  obtain rfl : p' = p := by rw [e] at e'; subst ev'; cases e'; rfl
  exact ⟨p', vs', v, rfl, rfl, hH', Nat.lt_of_lt_of_le (by rw [dps_len hd']; exact hz) (by decide), k σ F1 _ ⟨hL1, F2, H2, Fl2, p2, s2, l2, h2.app h e h0' hF' hH' hd' d1⟩⟩
theorem r_app (h : G[i]? = some (.ow ds)) (he : ER b te G Γ Γ' d) (hz : ds.length < 100000) (k : SR b tw D (G.set i (.ow (ds ++ [d]))) Γ') : SR b (tSeq (tDrop (tBM b.K "list" rAppend (tVar i) (tCons te tNil))) tw) D G Γ := sr_app (D := { D with nx := tw D }) h he hz k
/-- x = [], a new list -/
theorem r_asgL (h : ∀ F0 H0 Fl, Γ.Ψ F0 H0 → EL ⟨b.K, b.T, F0, H0, Fl⟩ te G ds) (k : SR b tw D (G.set i (.ow ds)) Γ) : SR b (tSeq (tAsg te (gName i)) tw) D G Γ := fun σ F H hh => by
  obtain ⟨hL, F0, H0, Fl, p, s0, l0, h0⟩ := hh
  refine q_asgL (tw := tw) (D := D) (i := i) (h F0 H0 Fl p) (fun σ1 F1 H1 h1 => ?_) σ F H h0
  exact k σ1 F1 H1 ⟨hL, F0, H0, Fl, p, s0, l0, h1⟩
/-- some state of a turn -/
def nxR (b : Gd) {L : Addr → Prop} {α : Type} (Iv : α → List Sl) (Γs : α → Gst L) (P : α → Prop) : L2.St → Hp → Prop := fun σ H => ∃ a, P a ∧ ∃ F, HR b (Γs a) (Iv a) σ F H
theorem nr_end {α : Type} {Iv : α → List Sl} {Γs : α → Gst L} {P : α → Prop} (a : α) (p : P a) (w : Wk G (Iv a)) : NR b (nxR b Iv Γs P) G (Γs a) := fun σ F H hh => ⟨a, p, F, hh.wk w⟩
theorem sr_while {α : Type} (Iv : α → List Sl) (Γs : α → Gst L) (P : α → Prop) (m : α → Nat) (a0 : α) (p0 : P a0) (g0 : Γs a0 = Γ) (w0 : Wk G (Iv a0))
    (turn : ∀ a, P a → ∃ c Γ', TR b tt (Iv a) (Γs a) Γ' c ∧ (c = true → SR b t1 { D with nx := nxR b Iv Γs (fun a' => P a' ∧ m a' < m a), ct := nxR b Iv Γs (fun a' => P a' ∧ m a' < m a), bk := D.nx } (Iv a) Γ') ∧ (c = false → NR b D.nx (Iv a) Γ')) : SR b (tWhile tt t1) D G Γ := fun σ F H hh => by
  subst g0
  refine ⟨fun n σ H => ∃ a, n = m a ∧ P a ∧ ∃ F, HR b (Γs a) (Iv a) σ F H, ⟨_, a0, rfl, p0, F, hh.wk w0⟩, ?_⟩
  rintro n σ2 H2 ⟨a, rfl, p, F2, hh2⟩
  obtain ⟨c, Γ', ht, h1, h2⟩ := turn a p
  refine ht σ2 F2 H2 hh2 _ fun F3 H3 s3 hh3 => ?_
  cases c with
  | true => exact ⟨_, fun σ' H' ⟨a', ⟨p', l⟩, F', h'⟩ => ⟨m a', l, a', rfl, p', F', h'⟩, h1 rfl σ2 F3 H3 hh3⟩
  | false => exact h2 rfl σ2 F3 H3 hh3
theorem r_while {α : Type} (Iv : α → List Sl) (Γs : α → Gst L) (P : α → Prop) (m : α → Nat) (a0 : α) (p0 : P a0) (g0 : Γs a0 = Γ) (w0 : Wk G (Iv a0))
    (turn : ∀ a, P a → ∃ c Γ', TR b tt (Iv a) (Γs a) Γ' c ∧ (c = true → SR b t1 { nx := nxR b Iv Γs (fun a' => P a' ∧ m a' < m a), rt := D.rt, ct := nxR b Iv Γs (fun a' => P a' ∧ m a' < m a), bk := tw D } (Iv a) Γ') ∧ (c = false → SR b tw D (Iv a) Γ')) : SR b (tSeq (tWhile tt t1) tw) D G Γ :=
  sr_while (D := { D with nx := tw D }) Iv Γs P m a0 p0 g0 w0 turn
theorem sr_cut {α : Type} (Iv : α → List Sl) (Γs : α → Gst L) (P : α → Prop) (h : SR b t1 { D with nx := nxR b Iv Γs P } G Γ) (k : ∀ a, P a → SR b tw D (Iv a) (Γs a)) : SR b (Evl.tCut t1 tw) D G Γ := fun σ F H hh =>
  ⟨nxR b Iv Γs P, h σ F H hh, fun σ' H' ⟨a, p, F', h'⟩ => k a p σ' F' H' h'⟩
end
/-! ### a family of objects of one class, each with its region -/
structure Fam (K : PySem.W.Frag) (C : Addr) where
  ι : Type
  α : Type
  ad : ι → Addr
  L : ι → Addr → Prop
  Γ : (i : ι) → α → Gst (L i)
  names : List Str
  ins : ∀ i s F H, (Γ i s).Ψ F H → ∃ dx ws, H (ad i) = some (.ins C dx ws) ∧ ∀ m, m ∉ names → ws.lookup m = none
/-- a method: (state, arguments) ↦ (state, answer) -/
def spF (K : PySem.W.Frag) (Tb : List Addr) {C : Addr} (Fm : Fam K C) (R : Fm.α → List PyData → Fm.α → PyData → Prop) : Sp := fun vs H Q _ => ∃ F i us s ds s' d, vs = .ref (Fm.ad i) :: us ∧ Sub F H ∧ (∀ P ∈ Tb, GxR.TabG H P) ∧ (Fm.Γ i s).Ψ F H ∧ DpAll K F us ds ∧ R s ds s' d ∧
  ∀ v F' H', Stp F (wo (Fm.L i) H) F' H' → (Fm.Γ i s').Ψ F' H' → Dp K F' v d → Q v H'
theorem del_wo {b : Gd} {L : Addr → Prop} {Γ Γ' : Gst L} {G : List Sl} {σ : L2.St} {F H F' H' : Hp} (h : HR b Γ G σ F H) (s : Stp F (wo L H) F' H') (p' : Γ'.Ψ F' H') (tb : ∀ P ∈ b.T, GxR.TabG H' P) : HR b Γ' G σ F' H' := by
  have st := h.st
  have hL := h.1
  refine h.change s.f ((st.wo hL fun p hp => (Γ.own F H h.psi p hp).1).trans s) tb p' fun p u nl e0 e1 n => ?_
  have e2 : wo L H p = some u := by rw [wo_out nl]; exact e1
  exact ⟨s.h p u e2 n, s.n p u e2 e0⟩
theorem tab_wo {b : Gd} {L : Addr → Prop} {Γ : Gst L} {F H : Hp} {P : Addr} (p : Γ.Ψ F H) (t : GxR.TabG H P) : GxR.TabG (wo L H) P := by
  obtain ⟨ps, e, r⟩ := t
  have na : ¬ L P := fun h => by
    obtain ⟨_, u, e1, n⟩ := Γ.own F H p P h
    rw [e] at e1; cases e1; exact n ps rfl
  exact ⟨ps, by rw [wo_out na]; exact e, r⟩
section
variable {b : Gd} {C : Addr} {Fm : Fam b.K C} {i : Fm.ι} {s s1 s' : Fm.α} {G : List Sl} {j : Nat} {ta : TA} {ds : List PyData} {d : PyData} {m : Str}
theorem er_meth {R : Fm.α → List PyData → Fm.α → PyData → Prop} {Ek : XK} (h : G[j]? = some (.raw (.ref (Fm.ad i)))) (ha : AR b ta G (Fm.Γ i s) (Fm.Γ i s1) ds) (hm : m ∉ Fm.names) (r : R s1 ds s' d) :
    ER b (tMeth C m (spF b.K b.T Fm R) [] Ek (tVar j) ta) G (Fm.Γ i s) (Fm.Γ i s') d := fun σ F H hh Q q => by
  obtain ⟨dx, ws, e1, e2⟩ := Fm.ins i s F H hh.psi
  have hh0 := hh
  obtain ⟨hL, F0, H0, Fl, p0, s0, l0, h0⟩ := hh0
  obtain ⟨o, eo, ok⟩ := h0.at_ h
  obtain rfl : o = some (.ref (Fm.ad i)) := ok
  refine ⟨.ref (Fm.ad i), eo, Fm.ad i, dx, ws, rfl, e1, e2 m hm, ha σ F H hh _ fun us F1 H1 x1 hh1 d1 => ?_⟩
  rw [List.append_nil]
  refine ⟨F1, i, us, s1, ds, s', d, rfl, hh1.st.i, hh1.tab, hh1.psi, d1, r, fun v F2 H2 s2 p2 d2 => ?_⟩
  exact q v F2 H2 (x1.trans s2.f) (del_wo hh1 s2 p2 fun P hP => s2.t P (tab_wo (b := b) hh1.psi (hh1.tab P hP))) d2
end
section
variable {P : Program} {w : World} {K : PySem.W.Frag} {mg : Str → Option Value} {base : Heap} {m qual n0 : Str} {st : Stmt} {f C : Addr} {fd : FuncData} {N ps : List Str} {k : Nat} {Tb : List Addr}
theorem hr_start {Fm : Fam K C} {i : Fm.ι} {s : Fm.α} {F H : Hp} {us : List V} {ds : List PyData} (sb : Sub F H) (ht : ∀ P ∈ Tb, GxR.TabG H P) (ps : (Fm.Γ i s).Ψ F H) (hd : DpAll K F us ds) :
    HR ⟨K, Tb, F, wo (Fm.L i) H, F⟩ (Fm.Γ i s) (beginM (n0 :: N) (.raw (.ref (Fm.ad i))) ds) (L2.start (n0 :: N) (.ref (Fm.ad i) :: us)) F H := by
  refine ⟨fun p hp => wo_in hp, F, H, F, ps, stp_wo_self sb, Ex.refl F, ?_⟩
  have hs := holds_start (K := K) (Tb := Tb) (Nn := N) sb ht hd
  have es : L2.start (n0 :: N) (.ref (Fm.ad i) :: us) = some (V.ref (Fm.ad i)) :: L2.start N us := by
    unfold L2.start
    rw [List.map_cons, List.length_cons, List.length_cons, Nat.add_sub_add_right]
    rfl
  have eb : beginM (n0 :: N) (.raw (.ref (Fm.ad i))) ds = .raw (.ref (Fm.ad i)) :: startG N.length ds := rfl
  rw [es, eb]
  refine ⟨by rw [List.length_cons, List.length_cons, hs.len], hs.st, fun j s o e1 e2 => ?_, fun j k s t p e1 e2 m1 m2 _ _ => ?_, ht, Ex.refl F⟩
  · cases j with
    | zero => cases e1; cases e2; rfl
    | succ j => exact hs.sl j s o e1 e2
  · cases j with
    | zero => cases e1; cases m1
    | succ j =>
      have e1 : (startG N.length ds)[j]? = some s := e1
      rw [start_no e1] at m1; cases m1
theorem mt_F (Fn : Fun K m qual st f fd) (Sc : FnScope (n0 :: N) ps (defScope st)) (hM : Meth K C m f) (hb : Binds K fd ps []) {Fm : Fam K C} {R : Fm.α → List PyData → Fm.α → PyData → Prop} (hlen : ∀ s ds s' d, R s ds s' d → ds.length + 1 = ps.length)
    (body : ∀ (cdv : Value) (A : Around) (outer : List Env) (s : Shared) (H : Hp) (E : XK), Room k (A.deeper (envOfC qual (defScope st) s.heap.objs.size f cdv)) →
      ∃ t, PSs (cxOf CX0 P w K mg base (n0 :: N) qual (defScope st) f cdv A outer s H E).nox (defBody st) t ∧ ∀ (i : Fm.ι) (s : Fm.α) (ds : List PyData) (s' : Fm.α) (d : PyData) (F0 H0 : Hp) (Q : VK), R s ds s' d → RtF ⟨K, Tb, F0, H0, F0⟩ (Fm.Γ i s') Q d →
        SR ⟨K, Tb, F0, H0, F0⟩ t { nx := fun _ H' => Q .non H', rt := Q } (beginM (n0 :: N) (.raw (.ref (Fm.ad i))) ds) (Fm.Γ i s)) :
    MtOk P w K mg base (k + 1) C m ps (spF K Tb Fm R) := by
  refine ⟨f, fd, hM, Fn.ok Sc (fun vs H Q E h => ?_) (fun cdv A outer s H vs Q E hr h => ?_), hb⟩
  · obtain ⟨F1, i, us, s, ds, s', d, rfl, _, _, _, hd, r, _⟩ := h
    rw [List.length_cons, dps_len hd]; exact hlen _ _ _ _ r
  · obtain ⟨F1, i, us, s1, ds, s', d, rfl, sb, ht, p1, hd, r, q⟩ := h
    obtain ⟨t, h1, h2⟩ := body cdv A outer s H E hr
    exact ⟨t, h1, h2 i s1 ds s' d F1 (wo (Fm.L i) H) Q r (fun v F' H' a1 a2 a3 => q v F' H' a1 a2 a3) _ F1 H (hr_start sb ht p1 hd)⟩
end
end DW
/-! calls that raise an exception with fields and pass it on; y not in f(..), f gives a new dict; from a region back to slots -/
namespace DW
open PySem PySem.Spec PyProof.Rows L2
/-- te gives no value -/
def NoRet (g : Gd) (te : TE) (G : List Sl) : Prop := ∀ σ F H, Holds g G σ F H → ∀ Q : VK, te σ H Q
section
variable {g : Gd} {G : List Sl} {te ty : TE} {ta : TA} {tw : TS} {tg : TG} {ds : List PyData} {d : PyData} {D : Ends} {C : Addr} {fs : List (Str × PyData)} {i : Nat}
theorem nor_call {R : List PyData → Out → Prop} {Es : L2.St → XK} (h : A g ta G ds) (r : R ds (.exc C fs)) (k : ∀ σ, XtOk g (Es σ) C fs) : NoRet g (tCallS (spX g.K g.T R) Es ta) G := fun σ F H hh Q => h σ F H hh _ fun vs F1 H1 s1 d1 =>
  ⟨F1, ds, .exc C fs, s1.i, (hh.mono s1).tab, d1, r, fun dx ws F2 H2 s2 h0 hF hH hf => k σ dx ws F2 H2 ((hh.mono s1).st.trans s2) (old_free (hh.mono s1).st h0) hF hH hf⟩
theorem q_dropE (h : NoRet g te G) : S g (tSeq (tDrop te) tw) D G := fun σ F H hh => h σ F H hh _
theorem q_asgE (h : NoRet g te G) : S g (tSeq (tAsg te tg) tw) D G := fun σ F H hh => h σ F H hh _
theorem e_cX {R : List PyData → Out → Prop} {Es : L2.St → XK} (h : A g ta G ds) (r : R ds (.val d)) : E g (tCallS (spX g.K g.T R) Es ta) G d := fun σ F H hh Q q => h σ F H hh _ fun vs F1 H1 s1 d1 =>
  ⟨F1, ds, .val d, s1.i, (hh.mono s1).tab, d1, r, fun v F2 H2 s2 d2 => q v F2 H2 (s1.trans s2) d2⟩
theorem t_dninE {kvs : List (Str × PyData)} {k : Str} (he : EOD g te G kvs) (hk : E g ty G (.str k)) : T g (tB (tDNotIn ty te)) G (!(getK kvs k).isSome) := fun σ F H hh Q q => hk σ F H hh _ fun u F1 H1 s1 d1 => by
  cases d1
  refine he σ F1 H1 (hh.mono s1) _ fun p vs F2 H2 s2 h0 hF hH hv => ?_
  have e : (valV vs (Sum.inr k : Key)).isSome = (getK kvs k).isSome := by
    cases e : getK kvs k with
    | none => rw [(kv_get hv).2 e]; rfl
    | some d => obtain ⟨v, e1, _⟩ := (kv_get hv).1 d e; rw [e1]; rfl
  refine ⟨p, valV vs (Sum.inr k : Key), rfl, .inl ⟨vs, .inr k, .inl hH, rfl, rfl⟩, ?_⟩
  rw [e]
  exact ⟨_, rfl, q F2 H2 (s1.trans s2)⟩
end
section
variable {b : Gd} {L : Addr → Prop} {Γ : Gst L} {G : List Sl} {σ : L2.St} {F H F0 H0 : Hp}
/-- the slots alone again -/
theorem HR.back (h : HR b Γ G σ F H) : Holds b G σ F H := by
  obtain ⟨hL, F1, H1, Fl1, p, s, l, hh⟩ := h
  refine ⟨hh.len, s.trans hh.st, fun j t o e1 e2 => ?_, hh.apart, hh.tab, l.trans hh.lo⟩
  have q := hh.sl j t o e1 e2
  cases t with
  | un => trivial
  | fz d => exact q
  | raw v => exact q
  | ow es =>
    obtain ⟨r, ws, er, q0, qF, qH, qd⟩ := q
    exact ⟨r, ws, er, old_free s q0, qF, qH, qd⟩
  | od es =>
    obtain ⟨r, ws, er, q0, qF, qH, qd⟩ := q
    exact ⟨r, ws, er, old_free s q0, qF, qH, qd⟩
  | fk es => exact q
  | ob C =>
    obtain ⟨r, u, er, q0, qF, qH, qn, qC⟩ := q
    exact ⟨r, u, er, old_free s q0, qF, qH, qn, qC⟩
/-- a region of new objects beside the slots -/
theorem HR.fresh (hh : Holds b G σ F H) (hL : ∀ p, L p → b.H0 p = none) (no : ∀ p, Own G σ p → ¬ L p) (p : Γ.Ψ F H) : HR b Γ G σ F H := by
  have h2 := hh.restart (Ex.refl F) hh.st.i hh.tab fun p u o e n => ⟨e, (own_at hh o).2.1⟩
  refine ⟨hL, F, DW.wo (Own G σ) H, F, ?_, hh.st.wo (fun p o => (own_at hh o).1) (fun p o => (own_at hh o).2.1), hh.lo, h2⟩
  exact Γ.mov F H F _ p (Ex.refl F) (fun p hp => wo_out fun o => no p o hp) fun q hq => (Γ.own F H p q hq).1
end
end DW
/-! xs.pop() inside an expression; calls over arguments that change a slot -/
namespace DW
open PySem PySem.Spec PyProof.Rows L2
section
variable {g : Gd} {G : List Sl} {ta : TA} {ds : List PyData} {d : PyData} {i : Nat} {s' : Sl}
theorem eg_pop (h : G[i]? = some (.ow (ds ++ [d]))) : EG g i (tBM0 g.K "list" rPop (tVar i)) G (.ow ds) d := fun σ F H hh Q q => by
  obtain ⟨o, e, p, vs, ev, h0, hF, hH, hd⟩ := hh.at_ h
  subst ev
  obtain ⟨v, h1, h2, h3⟩ := dps_last hd
  refine ⟨.ref p, e, .inl ⟨rfl, vs, .inl (.inl hH)⟩, p, vs, v, rfl, rfl, hH, h1, ?_⟩
  have z := own_set hh h e h0 hF hH (Stp.refl hh.st.i) h3
  refine q v F _ ⟨Ex.refl F, fun a o e1 n q1 => ?_, fun a o e1 => ?_, fun _ _ _ n => n⟩ z h2
  · rw [upd_ne (fun z => q1 (by rw [z]; exact e))]; exact e1
  · by_cases ha : a = p
    · rw [ha]; exact ⟨_, upd_same⟩
    · rw [upd_ne ha]; exact ⟨o, e1⟩
theorem eg_callD {R : List PyData → PyData → Prop} {Ek : XK} (h : AG g i ta G s' ds) (r : R ds d) : EG g i (tCall (spD g.K g.T R) [] Ek ta) G s' d := fun σ F H hh Q q => h σ F H hh _ fun vs F1 H1 s1 hh1 d1 => by
  rw [List.append_nil]
  exact ⟨F1, ds, d, hh1.st.i, hh1.tab, d1, r, fun v F2 H2 s2 d2 => q v F2 H2 (s1.trans s2.q) (hh1.mono s2) d2⟩
theorem s_asgG {te : TE} {j : Nat} {D : Ends} (h : EG g i te G s' d) (k : N g D.nx ((G.set i s').set j (.fz d))) : S g (tAsg te (gName j)) D G := fun σ F H hh => h σ F H hh _ fun v F1 H1 s1 hh1 d1 => k _ F1 H1 (hh1.setF d1)
end
end DW
/-! the digits of a whole number's text -/
namespace DW
open PySem PySem.Spec PyProof.Rows L2
theorem ts_codes (m : Nat) : (tS ((m : Nat) : Int)).cps.toList = (Nat.toDigits 10 m).map Char.toNat := PySem.W.KIN.signs_num m
theorem ts_neg (m : Nat) : (tS (Int.negSucc m)).cps.toList = 45 :: (Nat.toDigits 10 (m + 1)).map Char.toNat := by
  show (PySem.Str.ofString (toString (Int.negSucc m))).cps.toList = _
  rw [signs_ofString]
  show ("-" ++ Nat.repr (m + 1)).toList.map Char.toNat = _
  rw [String.toList_append, List.map_append, Nat.toList_repr]
  rfl
theorem dg_val (m : Nat) : ((Nat.toDigits 10 m).map Char.toNat).foldl (fun v c => v * 10 + (c - 48)) 0 = m := PySem.W.KIN.val_back m
theorem dg_range (m : Nat) : ∀ c ∈ (Nat.toDigits 10 m).map Char.toNat, 48 ≤ c ∧ c ≤ 57 := fun c hc => by
  obtain ⟨ch, hch, rfl⟩ := List.mem_map.mp hc
  exact digit_range (Nat.isDigit_of_mem_toDigits (by decide) (by decide) hch)
theorem dg_ne (m : Nat) : (Nat.toDigits 10 m).map Char.toNat ≠ [] := fun h => by
  have := toDigits_len_ge 10 m
  rw [List.map_eq_nil_iff.mp h] at this
  exact absurd this (by decide)
end DW
namespace K11
open PySem PySem.Spec PyProof.Rows L2 DW
/- the words of the walk: "side" an arithmetic side, "r" an operator's data, "c" a call's, "e" anything that is evaluated -/
local macro_rules | `(tactic| walk_at "side") => `(tactic| first | assumption | decide | exact Nat.le_of_ble_eq_true rfl | omega | rfl | skip)
local macro_rules | `(tactic| walk_at "r") => `(tactic| first
  | exact add_i | exact sub_i | (apply mod_i; walk_at "side") | (apply div_i <;> walk_at "side") | (apply mul_i; first | (left; constructor <;> omega) | (right; constructor <;> omega) | skip) | (apply pow_i; first | (refine ⟨?_, ?_, ?_⟩ <;> decide) | skip)
  | exact eq_i | exact ne_i | exact eq_s | exact ne_s | exact eq_b | exact ne_b | exact is_n | exact nis_n | exact is_bb | exact nt_bb
  | exact lt_i | exact le_i | exact gt_i | exact ge_i | exact lt_s | (apply add_s; walk_at "side") | (apply mul_s <;> walk_at "side")
  | (apply in_l <;> walk_at "side") | (apply in_t <;> walk_at "side") | (apply ni_l <;> walk_at "side") | (apply ni_t <;> walk_at "side") | exact in_sg | exact ni_sg
  | (apply eqd <;> walk_at "side") | (apply ned <;> walk_at "side")
  | (apply ix_l; walk_at "side") | (apply ix_t; walk_at "side") | (apply ix_s <;> walk_at "side"))
local macro_rules | `(tactic| walk_at "c") => `(tactic| first | exact len_l | exact len_t | (apply len_s; walk_at "side") | exact int_i | exact max_i | exact min_i)
local macro_rules | `(tactic| walk_at "e") => `(tactic| first
  | exact e_var rfl | exact e_int | exact e_str | exact e_bl | exact e_non | exact b_ow rfl | exact a_nil | exact ab_nil | exact ax_nil | exact o_none
  | ((with_reducible apply a_cons); walk_at "e"; walk_at "e") | ((with_reducible apply ab_cons); walk_at "e"; walk_at "e")
  | ((with_reducible apply ax_d); walk_at "e"; walk_at "e") | ((with_reducible apply ax_k); rfl; walk_at "e")
  | ((with_reducible apply e_ixo); rfl; walk_at "e"; walk_at "side")
  | ((with_reducible apply e_op); walk_at "e"; walk_at "e"; walk_at "r")
  | ((with_reducible apply b_op); walk_at "e"; walk_at "e"; walk_at "r"; rfl)
  | ((with_reducible apply b_cb); walk_at "e"; walk_at "c"; rfl)
  | ((with_reducible apply e_neg); walk_at "e")
  | ((with_reducible apply e_isiI); walk_at "e") | ((with_reducible apply e_isiIb); walk_at "e") | ((with_reducible apply e_isiBb); walk_at "e") | ((with_reducible apply e_isiL); walk_at "e") | ((with_reducible apply e_isiT); walk_at "e")
  | ((with_reducible apply e_notT); walk_at "e"; rfl) | ((with_reducible apply t_tru); walk_at "e"; rfl)
  | ((with_reducible apply e_andV); walk_at "e"; intro _; walk_at "e") | ((with_reducible apply t_and); walk_at "e"; intro _; walk_at "e") | ((with_reducible apply t_or); walk_at "e"; intro _; walk_at "e")
  | ((with_reducible apply e_chain); walk_at "e"; walk_at "e"; (intro _; walk_at "e"); walk_at "r"; (intro _; walk_at "r"))
  | ((with_reducible apply t_test); walk_at "e") | ((with_reducible apply t_not); walk_at "e")
  | ((with_reducible apply e_tup); walk_at "e"; walk_at "side") | ((with_reducible apply el_lst); walk_at "e"; walk_at "side")
  | ((with_reducible apply o_some); walk_at "e")
  | ((with_reducible apply b_of); walk_at "e"))
local macro_rules | `(tactic| walk_at "w") => `(tactic| repeat (first | exact Wk.nil | (apply Wk.keep; with_reducible rfl) | apply Wk.drop))
/-! ### the draws of a cell -/
def dg (rest : Int) : Nat → List Int × Int
  | 0 => ([], rest)
  | n + 1 => if 0 < (dg rest n).2 then ((dg rest n).1 ++ [(dg rest n).2 % 1000], (dg rest n).2 / 1000) else dg rest n
def dgs (c : Int) (m : Nat) : List Int := if 1000000000000000000 ≤ c then (dg c m).1 else []
def st0 (c : Int) : Int := (c * 48271 + 11) % 2147483647
def stN (c : Int) : Nat → Int
  | 0 => st0 c
  | n + 1 => (stN c n * 48271 + (n : Int) * 69621 + 7) % 2147483647
def mx (c : Int) (m : Nat) : Nat → List Int
  | 0 => dgs c m
  | n + 1 => if ((mx c m n).length : Int) < m then mx c m n ++ [(stN c (n + 1) * 69621 + 5) % 2147483629 % 1000] else mx c m n
def draws (c : Int) (m : Nat) : List Int := mx c m m
theorem dg_len (c : Int) : ∀ n, (dg c n).1.length ≤ n
  | 0 => Nat.le_refl _
  | n + 1 => by
    have := dg_len c n
    unfold dg
    split
    · rw [List.length_append]; exact Nat.succ_le_succ this
    · omega
theorem dgs_len (c : Int) (m : Nat) : (dgs c m).length ≤ m := by
  unfold dgs
  split
  · exact dg_len c m
  · exact Nat.zero_le _
theorem mx_len (c : Int) (m : Nat) : ∀ n, (mx c m n).length ≤ m ∧ min m n ≤ (mx c m n).length
  | 0 => ⟨dgs_len c m, by omega⟩
  | n + 1 => by
    have := mx_len c m n
    unfold mx
    split
    · rw [List.length_append]; show _ + 1 ≤ m ∧ _ ≤ _ + 1; omega
    · omega
theorem draws_len (c : Int) (m : Nat) : (draws c m).length = m := by
  have := mx_len c m m
  unfold draws
  omega
theorem stN_bd (c : Int) : ∀ n, 0 ≤ stN c n ∧ stN c n < 2147483647
  | 0 => ⟨Int.emod_nonneg _ (by decide), Int.emod_lt_of_pos _ (by decide)⟩
  | n + 1 => ⟨Int.emod_nonneg _ (by decide), Int.emod_lt_of_pos _ (by decide)⟩
/-! ### data -/
abbrev iL (xs : List Int) : PyData := .list (xs.map .int)
def itI (xs : List Int) (k : Int) : Int := xs.getD k.toNat 0
theorem at_nat {α : Type} {xs : List α} {k : Int} (h0 : 0 ≤ k) (h1 : k.toNat < xs.length) : atI xs k = xs[k.toNat]? := by
  obtain ⟨n, rfl⟩ := Int.eq_ofNat_of_zero_le h0
  have h2 : n < xs.length := h1
  rw [atI_nat (List.getElem?_eq_getElem h2)]
  exact (List.getElem?_eq_getElem h2).symm
theorem at_int {xs : List Int} {k : Int} (h0 : 0 ≤ k) (h1 : k < xs.length) : atI (xs.map PyData.int) k = some (.int (itI xs k)) := by
  rw [at_nat h0 (by rw [List.length_map]; omega), List.getElem?_map]
  unfold itI
  rw [List.getD_eq_getElem?_getD, List.getElem?_eq_getElem (by omega)]; rfl
/-- a sign of a text -/
def sg (s : Str) (k : Int) : Str := ⟨#[s.cps.toList.getD k.toNat 0]⟩
theorem md (a b : Int) (h : 0 < b) : 0 ≤ a % b ∧ a % b < b := ⟨Int.emod_nonneg _ (by omega), Int.emod_lt_of_pos _ h⟩
/-! names, worths -/
def topS (i : Nat) : Stmt := PySem.Challenge.pw_watchfloor_k11_language_limits.main.body.getD i (.Pass ⟨0, 0, 0, 0⟩)
def clsB : Stmt → List Stmt
  | .ClassDef (body := b) .. => b
  | _ => []
abbrev clsS (i j : Nat) : Stmt := (clsB (topS i)).getD j (.Pass ⟨0, 0, 0, 0⟩)
abbrev s_binary_kind : Stmt := topS 20
abbrev N_binary_kind : List Str := ["sign", "left", "right"]
theorem sc_binary_kind : FnScope N_binary_kind ["sign", "left", "right"] (defScope s_binary_kind) := ⟨rfl, rfl, rfl, by decide +kernel, rfl, by decide +kernel, by decide +kernel⟩
abbrev s_aggregate_kind : Stmt := topS 21
abbrev N_aggregate_kind : List Str := ["inner"]
theorem sc_aggregate_kind : FnScope N_aggregate_kind ["inner"] (defScope s_aggregate_kind) := ⟨rfl, rfl, rfl, by decide +kernel, rfl, by decide +kernel, by decide +kernel⟩
abbrev s_parts_of : Stmt := topS 22
abbrev N_parts_of : List Str := ["expression"]
theorem sc_parts_of : FnScope N_parts_of ["expression"] (defScope s_parts_of) := ⟨rfl, rfl, rfl, by decide +kernel, rfl, by decide +kernel, by decide +kernel⟩
abbrev s_count_of : Stmt := topS 23
abbrev N_count_of : List Str := ["expression", "selectors", "operators", "part", "more_selectors", "more_operators"]
theorem sc_count_of : FnScope N_count_of ["expression"] (defScope s_count_of) := ⟨rfl, rfl, rfl, by decide +kernel, rfl, by decide +kernel, by decide +kernel⟩
abbrev s_Walk_init : Stmt := clsS 27 0
abbrev N_Walk_init : List Str := ["self"]
theorem sc_Walk_init : FnScope N_Walk_init ["self"] (defScope s_Walk_init) := ⟨rfl, rfl, rfl, by decide +kernel, rfl, by decide +kernel, by decide +kernel⟩
abbrev s_Walk_choices : Stmt := clsS 27 1
abbrev N_Walk_choices : List Str := ["self", "found", "sign"]
theorem sc_Walk_choices : FnScope N_Walk_choices ["self"] (defScope s_Walk_choices) := ⟨rfl, rfl, rfl, by decide +kernel, rfl, by decide +kernel, by decide +kernel⟩
abbrev s_Walk_take : Stmt := clsS 27 2
abbrev N_Walk_take : List Str := ["self", "token", "choices", "choice"]
theorem sc_Walk_take : FnScope N_Walk_take ["self", "token"] (defScope s_Walk_take) := ⟨rfl, rfl, rfl, by decide +kernel, rfl, by decide +kernel, by decide +kernel⟩
abbrev s_Walk_note_brackets : Stmt := clsS 27 3
abbrev N_Walk_note_brackets : List Str := ["self", "choice", "state"]
theorem sc_Walk_note_brackets : FnScope N_Walk_note_brackets ["self", "choice", "state"] (defScope s_Walk_note_brackets) := ⟨rfl, rfl, rfl, by decide +kernel, rfl, by decide +kernel, by decide +kernel⟩
abbrev s_Walk_refined : Stmt := clsS 27 4
abbrev N_Walk_refined : List Str := ["self", "token", "state"]
theorem sc_Walk_refined : FnScope N_Walk_refined ["self", "token", "state"] (defScope s_Walk_refined) := ⟨rfl, rfl, rfl, by decide +kernel, rfl, by decide +kernel, by decide +kernel⟩
abbrev s_choice_for : Stmt := topS 28
abbrev N_choice_for : List Str := ["token", "choices", "kind", "value", "_"]
theorem sc_choice_for : FnScope N_choice_for ["token", "choices"] (defScope s_choice_for) := ⟨rfl, rfl, rfl, by decide +kernel, rfl, by decide +kernel, by decide +kernel⟩
abbrev s_walk_along : Stmt := topS 29
abbrev N_walk_along : List Str := ["tokens", "walk", "token"]
theorem sc_walk_along : FnScope N_walk_along ["tokens"] (defScope s_walk_along) := ⟨rfl, rfl, rfl, by decide +kernel, rfl, by decide +kernel, by decide +kernel⟩
abbrev s_from_steps : Stmt := topS 32
abbrev N_from_steps : List Str := ["steps", "aside", "place", "step", "first"]
theorem sc_from_steps : FnScope N_from_steps ["steps"] (defScope s_from_steps) := ⟨rfl, rfl, rfl, by decide +kernel, rfl, by decide +kernel, by decide +kernel⟩
abbrev s_scan : Stmt := topS 39
abbrev N_scan : List Str := ["text", "found", "at", "token", "end", "fault"]
theorem sc_scan : FnScope N_scan ["text"] (defScope s_scan) := ⟨rfl, rfl, rfl, by decide +kernel, rfl, by decide +kernel, by decide +kernel⟩
abbrev s_token_at : Stmt := topS 40
abbrev N_token_at : List Str := ["text", "at"]
theorem sc_token_at : FnScope N_token_at ["text", "at"] (defScope s_token_at) := ⟨rfl, rfl, rfl, by decide +kernel, rfl, by decide +kernel, by decide +kernel⟩
abbrev s_run_end : Stmt := topS 41
abbrev N_run_end : List Str := ["text", "at", "characters"]
theorem sc_run_end : FnScope N_run_end ["text", "at", "characters"] (defScope s_run_end) := ⟨rfl, rfl, rfl, by decide +kernel, rfl, by decide +kernel, by decide +kernel⟩
abbrev s_word_at : Stmt := topS 42
abbrev N_word_at : List Str := ["text", "at", "end"]
theorem sc_word_at : FnScope N_word_at ["text", "at"] (defScope s_word_at) := ⟨rfl, rfl, rfl, by decide +kernel, rfl, by decide +kernel, by decide +kernel⟩
abbrev s_number_at : Stmt := topS 43
abbrev N_number_at : List Str := ["text", "at", "end", "value", "place"]
theorem sc_number_at : FnScope N_number_at ["text", "at"] (defScope s_number_at) := ⟨rfl, rfl, rfl, by decide +kernel, rfl, by decide +kernel, by decide +kernel⟩
abbrev s_string_at : Stmt := topS 44
abbrev N_string_at : List Str := ["text", "at", "end"]
theorem sc_string_at : FnScope N_string_at ["text", "at"] (defScope s_string_at) := ⟨rfl, rfl, rfl, by decide +kernel, rfl, by decide +kernel, by decide +kernel⟩
abbrev s_symbol_at : Stmt := topS 45
abbrev N_symbol_at : List Str := ["text", "at", "end"]
theorem sc_symbol_at : FnScope N_symbol_at ["text", "at"] (defScope s_symbol_at) := ⟨rfl, rfl, rfl, by decide +kernel, rfl, by decide +kernel, by decide +kernel⟩
abbrev s_parse : Stmt := topS 48
abbrev N_parse : List Str := ["text", "found", "reader", "mark"]
theorem sc_parse : FnScope N_parse ["text"] (defScope s_parse) := ⟨rfl, rfl, rfl, by decide +kernel, rfl, by decide +kernel, by decide +kernel⟩
abbrev s_checked_tokens : Stmt := topS 49
abbrev N_checked_tokens : List Str := ["text", "found", "fault", "walk", "wrong"]
theorem sc_checked_tokens : FnScope N_checked_tokens ["text"] (defScope s_checked_tokens) := ⟨rfl, rfl, rfl, by decide +kernel, rfl, by decide +kernel, by decide +kernel⟩
abbrev s_check_depth : Stmt := topS 50
abbrev N_check_depth : List Str := ["found", "depth", "_", "value", "place"]
theorem sc_check_depth : FnScope N_check_depth ["found"] (defScope s_check_depth) := ⟨rfl, rfl, rfl, by decide +kernel, rfl, by decide +kernel, by decide +kernel⟩
abbrev s_Reader_init : Stmt := clsS 51 0
abbrev N_Reader_init : List Str := ["self", "found"]
theorem sc_Reader_init : FnScope N_Reader_init ["self", "found"] (defScope s_Reader_init) := ⟨rfl, rfl, rfl, by decide +kernel, rfl, by decide +kernel, by decide +kernel⟩
abbrev s_Reader_peek : Stmt := clsS 51 1
abbrev N_Reader_peek : List Str := ["self"]
theorem sc_Reader_peek : FnScope N_Reader_peek ["self"] (defScope s_Reader_peek) := ⟨rfl, rfl, rfl, by decide +kernel, rfl, by decide +kernel, by decide +kernel⟩
abbrev s_Reader_take : Stmt := clsS 51 2
abbrev N_Reader_take : List Str := ["self", "token"]
theorem sc_Reader_take : FnScope N_Reader_take ["self"] (defScope s_Reader_take) := ⟨rfl, rfl, rfl, by decide +kernel, rfl, by decide +kernel, by decide +kernel⟩
abbrev s_Reader_read_expression : Stmt := clsS 51 3
abbrev N_Reader_read_expression : List Str := ["self", "weakest", "_", "sign", "place"]
theorem sc_Reader_read_expression : FnScope N_Reader_read_expression ["self", "weakest"] (defScope s_Reader_read_expression) := ⟨rfl, rfl, rfl, by decide +kernel, rfl, by decide +kernel, by decide +kernel⟩
abbrev s_Reader_read_operand : Stmt := clsS 51 4
abbrev N_Reader_read_operand : List Str := ["self", "kind", "value", "place"]
theorem sc_Reader_read_operand : FnScope N_Reader_read_operand ["self"] (defScope s_Reader_read_operand) := ⟨rfl, rfl, rfl, by decide +kernel, rfl, by decide +kernel, by decide +kernel⟩
abbrev s_Reader_read_over : Stmt := clsS 51 5
abbrev N_Reader_read_over : List Str := ["self", "word", "metric", "matchers", "_", "span", "place"]
theorem sc_Reader_read_over : FnScope N_Reader_read_over ["self", "word"] (defScope s_Reader_read_over) := ⟨rfl, rfl, rfl, by decide +kernel, rfl, by decide +kernel, by decide +kernel⟩
abbrev s_Reader_read_aggregate : Stmt := clsS 51 6
abbrev N_Reader_read_aggregate : List Str := ["self", "word", "place", "names"]
theorem sc_Reader_read_aggregate : FnScope N_Reader_read_aggregate ["self", "word", "place"] (defScope s_Reader_read_aggregate) := ⟨rfl, rfl, rfl, by decide +kernel, rfl, by decide +kernel, by decide +kernel⟩
abbrev s_Reader_read_matchers : Stmt := clsS 51 7
abbrev N_Reader_read_matchers : List Str := ["self", "found"]
theorem sc_Reader_read_matchers : FnScope N_Reader_read_matchers ["self"] (defScope s_Reader_read_matchers) := ⟨rfl, rfl, rfl, by decide +kernel, rfl, by decide +kernel, by decide +kernel⟩
abbrev s_Reader_read_matcher : Stmt := clsS 51 8
abbrev N_Reader_read_matcher : List Str := ["self", "name", "test"]
theorem sc_Reader_read_matcher : FnScope N_Reader_read_matcher ["self"] (defScope s_Reader_read_matcher) := ⟨rfl, rfl, rfl, by decide +kernel, rfl, by decide +kernel, by decide +kernel⟩
abbrev s_Reader_read_list : Stmt := clsS 51 9
abbrev N_Reader_read_list : List Str := ["self", "found"]
theorem sc_Reader_read_list : FnScope N_Reader_read_list ["self"] (defScope s_Reader_read_list) := ⟨rfl, rfl, rfl, by decide +kernel, rfl, by decide +kernel, by decide +kernel⟩
abbrev s_check_sizes : Stmt := topS 52
abbrev N_check_sizes : List Str := ["marks", "end", "heads", "step", "_", "mark"]
theorem sc_check_sizes : FnScope N_check_sizes ["marks", "end"] (defScope s_check_sizes) := ⟨rfl, rfl, rfl, by decide +kernel, rfl, by decide +kernel, by decide +kernel⟩
abbrev s_is_large : Stmt := topS 53
abbrev N_is_large : List Str := ["step", "matchers", "matcher"]
theorem sc_is_large : FnScope N_is_large ["step"] (defScope s_is_large) := ⟨rfl, rfl, rfl, by decide +kernel, rfl, by decide +kernel, by decide +kernel⟩
abbrev s_check_spans : Stmt := topS 54
abbrev N_check_spans : List Str := ["marks", "step", "place"]
theorem sc_check_spans : FnScope N_check_spans ["marks"] (defScope s_check_spans) := ⟨rfl, rfl, rfl, by decide +kernel, rfl, by decide +kernel, by decide +kernel⟩
abbrev s_check_kinds : Stmt := topS 55
abbrev N_check_kinds : List Str := ["marks", "kinds", "step", "place", "kind", "right"]
theorem sc_check_kinds : FnScope N_check_kinds ["marks"] (defScope s_check_kinds) := ⟨rfl, rfl, rfl, by decide +kernel, rfl, by decide +kernel, by decide +kernel⟩
abbrev s_l_law_cell : Stmt := topS 57
abbrev N_l_law_cell : List Str := ["script", "k"]
theorem sc_l_law_cell : FnScope N_l_law_cell ["script", "k"] (defScope s_l_law_cell) := ⟨rfl, rfl, rfl, by decide +kernel, rfl, by decide +kernel, by decide +kernel⟩
abbrev s_l_law_draws : Stmt := topS 58
abbrev N_l_law_draws : List Str := ["cell", "many", "rows", "rest", "k", "state"]
theorem sc_l_law_draws : FnScope N_l_law_draws ["cell", "many"] (defScope s_l_law_draws) := ⟨rfl, rfl, rfl, by decide +kernel, rfl, by decide +kernel, by decide +kernel⟩
abbrev s_law : Stmt := topS 59
abbrev N_law : List Str := ["script", "draws", "deep", "selectors", "numbers", "matchers", "values", "named", "span", "inner", "row", "place", "text", "head", "operators", "due", "opened", "k", "many", "actual", "e"]
theorem sc_law : FnScope N_law ["script"] (defScope s_law) := ⟨rfl, rfl, rfl, by decide +kernel, rfl, by decide +kernel, by decide +kernel⟩
section
variable {P : Program} {w : World} {K : PySem.W.Frag} {mg : Str → Option Value} {base : Heap} {f : Addr} {fd : FuncData} {Tb : List Addr} {k : Nat}
def R_draws : List PyData → PyData → Prop := fun ds d => ∃ (c : Int) (m : Nat), ds = [.int c, .int m] ∧ m ≤ 1000 ∧ d = .list ((draws c m).map .int)
theorem ok_draws (Fn : Fun K "_law_draws" "_law_draws" s_l_law_draws f fd) (hm : mg "_law_draws" = some (.ref f)) (hb : Binds K fd ["cell", "many"] []) (Z : Zb mg) :
    Df P w K mg base 1 "_law_draws" ["cell", "many"] (spD K Tb R_draws) := by
  refine df_D Fn sc_l_law_draws hm hb (fun ds d h => by obtain ⟨c, m, rfl, _⟩ := h; rfl) fun cdv A outer s H Ek hr => ⟨_, (pss_cons (ps_set (i := 2) sc_l_law_draws.nd rfl (by first | exact .inl rfl | exact .inr rfl) (pe_lst pa_nil))
      (pss_cons (ps_set (i := 3) sc_l_law_draws.nd rfl (by first | exact .inl rfl | exact .inr rfl) (pe_callTy uInt (by rfl) Z.int (by decide +kernel) (pa_cons (pv 0) pa_nil)))
      (Evl.pss_cut (ps_if (pt_cmpR op_ge (pv 3) (pe_op op_pow pe_int pe_int) (nomark _)) (pss_one (ps_for PassesOwn.never rfl (pi_range1 (by rfl) Z.range (pa_cons (pv 1) pa_nil)) (pg_name (i := 4) sc_l_law_draws.nd rfl (by first | exact .inl rfl | exact .inr rfl)) (pss_one (ps_if (pt_cmpR op_gt (pv 3) pe_int (nomark _)) (pss_cons (ps_expr (pe_bm PySem.F.plainAttrs_list PySem.F.slot_list_append PySem.F.type_list_append mt_append (pv 2) (pa_cons (pe_op op_mod (pe_callTy uInt (by rfl) Z.int (by decide +kernel) (pa_cons (pv 3) pa_nil)) pe_int) pa_nil)))
      (pss_one (ps_set (i := 3) sc_l_law_draws.nd rfl (by first | exact .inl rfl | exact .inr rfl) (pe_op op_fdiv (pv 3) pe_int)))) pss_nil)))) pss_nil)
      (pss_cons (ps_set (i := 5) sc_l_law_draws.nd rfl (by first | exact .inl rfl | exact .inr rfl) (pe_op op_mod (pe_callTy uInt (by rfl) Z.int (by decide +kernel) (pa_cons (pe_op (uAddK K) (pe_op uMul (pe_callTy uInt (by rfl) Z.int (by decide +kernel) (pa_cons (pv 0) pa_nil)) pe_int) pe_int) pa_nil)) pe_int))
      (pss_cons (ps_for PassesOwn.never rfl (pi_range1 (by rfl) Z.range (pa_cons (pv 1) pa_nil)) (pg_name (i := 4) sc_l_law_draws.nd rfl (by first | exact .inl rfl | exact .inr rfl)) (pss_cons (ps_set (i := 5) sc_l_law_draws.nd rfl (by first | exact .inl rfl | exact .inr rfl) (pe_op op_mod (pe_callTy uInt (by rfl) Z.int (by decide +kernel) (pa_cons (pe_op (uAddK K) (pe_op (uAddK K) (pe_op uMul (pv 5) pe_int) (pe_op uMul (pv 4) pe_int)) pe_int) pa_nil)) pe_int))
      (pss_one (ps_if (pt_cmpR uLt (pe_callB (uLenK K) (by rfl) Z.len (by decide +kernel) (pa_cons (pv 2) pa_nil)) (pv 1) (nomark _)) (pss_one (ps_expr (pe_bm PySem.F.plainAttrs_list PySem.F.slot_list_append PySem.F.type_list_append mt_append (pv 2) (pa_cons (pe_op op_mod (pe_callTy uInt (by rfl) Z.int (by decide +kernel) (pa_cons (pe_op op_mod (pe_callTy uInt (by rfl) Z.int (by decide +kernel) (pa_cons (pe_op (uAddK K) (pe_op uMul (pv 5) pe_int) pe_int) pa_nil)) pe_int) pa_nil)) pe_int) pa_nil)))) pss_nil))))
      (pss_one (ps_ret (pv 2)))))))), fun ds d F0 H0 Q r rt => ?_⟩
  obtain ⟨c, m, rfl, hm, rfl⟩ := r
  have e18 : ((10 : Int) ^ (18 : Int).toNat) = 1000000000000000000 := by decide
  refine q_asgL (el_lst a_nil (by decide)) ?_
  refine q_asg (d := .int c) ?_ ?_
  · walk_at "e"
  -- the digits
  refine s_cutA (fun r0 : Int => [.fz (.int c), .fz (.int m), .ow ((dgs c m).map .int), .fz (.int r0), .un, .un]) (fun _ => True) ?_ fun r0 _ => ?_
  · refine s_if (b := decide (1000000000000000000 ≤ c)) ?_ (fun hb => ?_) fun hb => ?_
    · walk_at "e"
    · let Iv : Nat → List Sl := fun i => [.fz (.int c), .fz (.int m), .ow ((dg c i).1.map .int), .fz (.int (dg c i).2), .un, .un]
      refine s_for1 Iv (it_rng1 (n := (m : Int)) ?_ (by omega) (by omega)) (Wk.refl _) (fun F1 i d hd => ?_) ?_
      · walk_at "e"
      · obtain ⟨hi, rfl⟩ := rngD_get hd
        refine ⟨_, _, g_name, ?_⟩
        refine s_if (b := decide (0 < (dg c i).2)) ?_ (fun h => ?_) fun h => ?_
        · walk_at "e"
        · have e : dg c (i + 1) = ((dg c i).1 ++ [(dg c i).2 % 1000], (dg c i).2 / 1000) := by
            show (if _ then _ else _) = _
            rw [if_pos (of_decide_eq_true h)]
          refine q_app rfl (d := .int ((dg c i).2 % 1000)) ?_ ?_ ?_
          · walk_at "e"
          · rw [List.length_map]; have := dg_len c i; omega
          · refine s_asg (d := .int ((dg c i).2 / 1000)) ?_ ?_
            · walk_at "e"
            · refine n_end1 (.keep rfl (.keep rfl (.keep ?_ (.keep ?_ (.drop (.keep rfl .nil))))))
              · show Sl.ow ((dg c (i + 1)).1.map .int) = _
                rw [e, List.map_append]; rfl
              · show Sl.fz (.int (dg c (i + 1)).2) = _
                rw [e]
        · have e : dg c (i + 1) = dg c i := by
            show (if _ then _ else _) = _
            rw [if_neg (of_decide_eq_false h)]
          refine s_next (n_end1 (.keep rfl (.keep rfl (.keep ?_ (.keep ?_ (.drop (.keep rfl .nil)))))))
          · show Sl.ow ((dg c (i + 1)).1.map .int) = _
            rw [e]
          · show Sl.fz (.int (dg c (i + 1)).2) = _
            rw [e]
      · have e : (rngD 0 ((m : Int)).toNat).length = m := by rw [rngD_len]; omega
        rw [e]
        have e2 : (dg c m).1 = dgs c m := by unfold dgs; rw [if_pos (of_decide_eq_true hb)]
        refine n_end (dg c m).2 trivial (.keep rfl (.keep rfl (.keep ?_ (.keep rfl (.keep rfl (.keep rfl .nil))))))
        rw [e2]
    · have e2 : dgs c m = [] := by unfold dgs; rw [if_neg (of_decide_eq_false hb)]
      refine s_next (n_end c trivial (.keep rfl (.keep rfl (.keep ?_ (.keep rfl (.keep rfl (.keep rfl .nil)))))))
      rw [e2]; rfl
  · refine q_asg (d := .int (st0 c)) ?_ ?_
    · walk_at "e"
    · let Iv : Nat → List Sl := fun i => [.fz (.int c), .fz (.int m), .ow ((mx c m i).map .int), .fz (.int r0), .un, .fz (.int (stN c i))]
      refine q_for1 Iv (it_rng1 (n := (m : Int)) ?_ (by omega) (by omega)) (Wk.refl _) (fun F1 i d hd => ?_) ?_
      · walk_at "e"
      · obtain ⟨hi, rfl⟩ := rngD_get hd
        have hb := stN_bd c i
        have hb2 := stN_bd c (i + 1)
        refine ⟨_, _, g_name, ?_⟩
        refine q_asg (d := .int (stN c (i + 1))) ?_ ?_
        · have e : stN c (i + 1) = (stN c i * 48271 + (0 + (i : Int)) * 69621 + 7) % 2147483647 := by rw [Int.zero_add]; rfl
          rw [e]
          walk_at "e"
        · refine s_if (b := decide (((mx c m i).length : Int) < m)) ?_ (fun h => ?_) fun h => ?_
          · have e : (((mx c m i).map PyData.int).length : Int) = (mx c m i).length := by rw [List.length_map]
            rw [← e]
            walk_at "e"
          · refine s_app rfl (d := .int ((stN c (i + 1) * 69621 + 5) % 2147483629 % 1000)) ?_ ?_ ?_
            · walk_at "e"
            · rw [List.length_map]; have := mx_len c m i; omega
            · refine n_end1 ?_
              have e : mx c m (i + 1) = mx c m i ++ [(stN c (i + 1) * 69621 + 5) % 2147483629 % 1000] := by
                show (if _ then _ else _) = _
                rw [if_pos (of_decide_eq_true h)]
              refine .keep rfl (.keep rfl (.keep ?_ (.keep rfl (.drop (.keep rfl .nil)))))
              show Sl.ow ((mx c m (i + 1)).map .int) = _
              rw [e, List.map_append]; rfl
          · refine s_next (n_end1 ?_)
            have e : mx c m (i + 1) = mx c m i := by
              show (if _ then _ else _) = _
              rw [if_neg (of_decide_eq_false h)]
            refine .keep rfl (.keep rfl (.keep ?_ (.keep rfl (.drop (.keep rfl .nil)))))
            show Sl.ow ((mx c m (i + 1)).map .int) = _
            rw [e]
      · have e : (rngD 0 ((m : Int)).toNat).length = m := by rw [rngD_len]; omega
        rw [e]
        exact s_retO rfl (RtL.of (D := { nx := fun x H' => Q V.non H', rt := Q }) rt)
/-! ### a cell -/
def cellF (s : List Int) (k : Int) : Int := if k < s.length then itI s k else 0
def R_cell : List PyData → PyData → Prop := fun ds d => ∃ (s : List Int) (k : Int), ds = [iL s, .int k] ∧ 0 ≤ k ∧ d = .int (cellF s k)
theorem ok_cell (Fn : Fun K "_law_cell" "_law_cell" s_l_law_cell f fd) (hm : mg "_law_cell" = some (.ref f)) (hb : Binds K fd ["script", "k"] []) (Z : Zb mg) :
    Df P w K mg base 1 "_law_cell" ["script", "k"] (spD K Tb R_cell) := by
  refine df_D Fn sc_l_law_cell hm hb (fun ds d h => by obtain ⟨c, m, rfl, _⟩ := h; rfl) fun cdv A outer s H Ek hr => ⟨_, (pss_cons (ps_if (pt_cmpR uLt (pv 1) (pe_callB (uLenK K) (by rfl) Z.len (by decide +kernel) (pa_cons (pv 0) pa_nil)) (nomark _)) (pss_one (ps_ret (pe_callTy uInt (by rfl) Z.int (by decide +kernel) (pa_cons (pe_ix (ix_seqK K) (pv 0) (pv 1) (fun _ _ => rfl)) pa_nil)))) pss_nil)
      (pss_one (ps_ret pe_int))),  fun ds d F0 H0 Q r rt => ?_⟩
  obtain ⟨xs, k, rfl, h0, rfl⟩ := r
  have e : (((xs.map PyData.int).length : Nat) : Int) = xs.length := by rw [List.length_map]
  refine q_if (b := decide (k < xs.length)) ?_ (fun h => ?_) fun h => ?_
  · rw [← e]; walk_at "e"
  · have h' := of_decide_eq_true h
    refine s_ret (d := .int (itI xs k)) ?_ ?_
    · have := at_int h0 h'
      walk_at "e"
    · rw [cellF, if_pos h'] at rt; exact rt
  · rw [cellF, if_neg (of_decide_eq_false h)] at rt
    refine s_next (n_go (s_ret (d := .int 0) ?_ rt))
    walk_at "e"
end
theorem map_get {α : Type} {f : α → PyData} {l : List α} {i : Nat} {d : PyData} (h : (l.map f)[i]? = some d) : ∃ x, l[i]? = some x ∧ d = f x := by
  rw [List.getElem?_map] at h
  cases e : l[i]? with
  | none => rw [e] at h; cases h
  | some x => rw [e] at h; exact ⟨x, rfl, (Option.some.inj h).symm⟩
theorem drop_get {α : Type} {l : List α} {i : Nat} {x : α} (h : l[i]? = some x) : l.drop i = x :: l.drop (i + 1) := by
  obtain ⟨hi, e⟩ := List.getElem?_eq_some_iff.mp h
  rw [← e]; exact List.drop_eq_getElem_cons hi
/-! ### lists made by a walk -/
def fI (q : Int → PyData) : PyData → Option PyData
  | .int i => some (q i)
  | _ => none
def g1 (G : List Sl) : PyData → List Sl := fun d => G ++ [.fz d]
def cutA {α : Type} (ds : List α) (lo hi : Option Int) : List α := (ds.drop (HT.sIx ds.length 0 lo)).take (HT.sIx ds.length ds.length hi - HT.sIx ds.length 0 lo)
theorem cut_map {α : Type} (a : α → PyData) (l : List α) (lo hi : Option Int) : DW.cutD (l.map a) lo hi = (cutA l lo hi).map a := by
  unfold DW.cutD cutA
  rw [List.length_map, List.map_take, List.map_drop]
/-! ### labels -/
theorem inD_str (a : Str) : ∀ (ns : List Str), inD (.str a) (ns.map .str) = decide (a ∈ ns)
  | [] => rfl
  | n :: ns => by
    have ih := inD_str a ns
    unfold inD inV at ih ⊢
    rw [List.map_cons, List.map_cons, List.any_cons, ih]
    show ((n == a) || _) = _
    rw [Bool.eq_iff_iff, Bool.or_eq_true, beq_iff_eq, decide_eq_true_iff, decide_eq_true_iff, List.mem_cons]
    exact or_congr eq_comm Iff.rfl
theorem scal_strs : ∀ (ns : List Str), (ns.map PyData.str).all scalD = true
  | [] => rfl
  | _ :: ns => by rw [List.map_cons, List.all_cons, scal_strs ns]; rfl
def g2 (G : List Sl) : PyData → List Sl
  | .tuple [a, b] => G ++ [.fz a, .fz b]
  | _ => []
/-! ### Walk: its fields, __init__, note_brackets -/
def wkF (st : Str) (dp : Int) (ir : Bool) : List (Str × PyData) := [("state", .str st), ("depth", .int dp), ("in_range", .bool ir)]
theorem wk_dp (st : Str) (dp x : Int) (ir : Bool) : ptFd "depth" (.int x) (wkF st dp ir) = wkF st x ir := by
  unfold wkF
  rw [ptFd, if_neg (by decide), ptFd, if_pos rfl]
theorem wk_ir (st : Str) (dp : Int) (ir x : Bool) : ptFd "in_range" (.bool x) (wkF st dp ir) = wkF st dp x := by
  unfold wkF
  rw [ptFd, if_neg (by decide), ptFd, if_neg (by decide), ptFd, if_pos rfl]
theorem wk_new : ptFd "in_range" (.bool false) (ptFd "depth" (.int 0) (ptFd "state" (.str "operand") [])) = wkF "operand" 0 false := by
  unfold wkF
  rw [ptFd, ptFd, if_neg (by decide), ptFd, ptFd, if_neg (by decide), ptFd, if_neg (by decide), ptFd]
theorem lk_st (st : Str) (dp : Int) (ir : Bool) : (wkF st dp ir).lookup ("state" : Str) = some (.str st) := rfl
theorem lk_dp (st : Str) (dp : Int) (ir : Bool) : (wkF st dp ir).lookup ("depth" : Str) = some (.int dp) := rfl
theorem lk_ir (st : Str) (dp : Int) (ir : Bool) : (wkF st dp ir).lookup ("in_range" : Str) = some (.bool ir) := rfl
def ENDS : List Str := ["operand_end", "metric", "over_word", "aggregate_word"]
def nbD (st ch to : Str) (dp : Int) : Int := if ch = ")" ∧ st ∈ ENDS then (if ch = "(" ∧ to = "operand" then dp + 1 else dp) - 1 else if ch = "(" ∧ to = "operand" then dp + 1 else dp
def nbI (st to : Str) (ir : Bool) : Bool := if st = "range_end" then false else if to = "range" then true else ir
section
variable {P : Program} {w : World} {K : PySem.W.Frag} {mg : Str → Option Value} {base : Heap} {f C : Addr} {fd : FuncData} {Tb : List Addr} {k : Nat}
def R_wi : List (Str × PyData) → List PyData → List (Str × PyData) → PyData → Prop := fun fs ds fs' d => fs = [] ∧ ds = [] ∧ fs' = wkF "operand" 0 false ∧ d = .none
theorem ok_wi (Fn : Fun K "__init__" "Walk.__init__" s_Walk_init f fd) (Z : Zb mg) (CL_Walk : Cls K C) (N1 : NoAttr K C "state") (N2 : NoAttr K C "depth") (N3 : NoAttr K C "in_range") :
    FnOk P w K mg base CX0 1 f fd ["self"] (spM K Tb C R_wi) := by
  refine fn_M Fn sc_Walk_init (fun fs ds fs' d h => by obtain ⟨_, rfl, _⟩ := h; rfl) fun cdv A outer s H Ek hr => ⟨_, (pss_cons (ps_fldK K (pv 0) pe_str)
      (pss_cons (ps_fldK K (pv 0) pe_int)
      (pss_one (ps_fldK K (pv 0) pe_bl)))),  fun fs ds fs' d F0 H0 a dx Q r rt => ?_⟩
  obtain ⟨rfl, rfl, rfl, rfl⟩ := r
  refine q_fldM rfl e_str CL_Walk N1 (by decide) ?_
  refine q_fldM rfl e_int CL_Walk N2 (Nat.le_of_ble_eq_true rfl) ?_
  refine s_fldM rfl e_bl CL_Walk N3 (Nat.le_of_ble_eq_true rfl) (n_retM (fs' := wkF "operand" 0 false) ?_ rt)
  rw [← wk_new]; rfl
def R_nb : List (Str × PyData) → List PyData → List (Str × PyData) → PyData → Prop := fun fs ds fs' d => ∃ (st : Str) (dp : Int) (ir : Bool) (ch to : Str), fs = wkF st dp ir ∧ ds = [.str ch, .str to] ∧ fs' = wkF st (nbD st ch to dp) (nbI st to ir) ∧ d = .none
theorem ok_nb {pE : Addr} (Fn : Fun K "note_brackets" "Walk.note_brackets" s_Walk_note_brackets f fd) (hM : Meth K C "note_brackets" f) (hb : Binds K fd ["self", "choice", "state"] []) (Z : Zb mg) (CL_Walk : Cls K C) (N1 : NoAttr K C "state") (N2 : NoAttr K C "depth") (N3 : NoAttr K C "in_range")
    (TE : TcOk K mg "OPERAND_ENDS" pE ENDS) :
    MtOk P w K mg base 1 C "note_brackets" ["self", "choice", "state"] (spM K Tb C R_nb) := by
  have C_OPERAND_ENDS := TE.c
  refine mt_M Fn sc_Walk_note_brackets hM hb (fun fs ds fs' d h => by obtain ⟨_, _, _, _, _, _, rfl, _⟩ := h; rfl) fun cdv A outer s H Ek hr => ⟨_, (Evl.pss_cut (ps_if (PW.pt (pw_and (pt_cmpR (uEqK K hr.units) (pv 1) pe_str (nomark _)) (pw_and1 (pt_cmpR (uEqK K hr.units) (pv 2) pe_str (nomark _))))) (pss_one (ps_augF K (pv 0) pe_int ip_add)) pss_nil)
      (Evl.pss_cut (ps_if (PW.pt (pw_and (pt_cmpR (uEqK K hr.units) (pv 1) pe_str (nomark _)) (pw_and1 (pt_cmpR (uInK K) (pe_fldK K (pv 0)) (pe_gc C_OPERAND_ENDS (by rfl)) (by rfl))))) (pss_one (ps_augF K (pv 0) pe_int ip_sub)) pss_nil)
      (Evl.pss_cut (ps_if (pt_cmpR (uEqK K hr.units) (pv 2) pe_str (nomark _)) (pss_one (ps_fldK K (pv 0) pe_bl)) pss_nil)
      (pss_one (ps_if (pt_cmpR (uEqK K hr.units) (pe_fldK K (pv 0)) pe_str (nomark _)) (pss_one (ps_fldK K (pv 0) pe_bl)) pss_nil))))),  fun fs ds fs' d F0 H0 a dx Q r rt => ?_⟩
  obtain ⟨st, dp, ir, ch, to, rfl, rfl, rfl, rfl⟩ := r
  show S _ _ _ [.ob (insC K a C dx (wkF st dp ir)), .fz (.str ch), .fz (.str to)]
  obtain ⟨d1, hd1⟩ : ∃ d1 : Int, d1 = if ch = "(" ∧ to = "operand" then dp + 1 else dp := ⟨_, rfl⟩
  refine s_cut [.ob (insC K a C dx (wkF st d1 ir)), .fz (.str ch), .fz (.str to)] (s_if (b := decide (ch = "(") && decide (to = "operand")) (t_and (t_test (b_op (E.b (e_var rfl)) (E.b e_str) eq_s rfl)) fun _ => t_test (b_op (E.b (e_var rfl)) (E.b e_str) eq_s rfl)) (fun z => ?_) fun z => s_next (n_end1 ?_)) ?_
  · have z := Bool.and_eq_true_iff.mp z
    rw [if_pos ⟨of_decide_eq_true z.1, of_decide_eq_true z.2⟩] at hd1
    refine s_augM (x := dp) (y := 1) rfl (lk_dp st dp ir) e_int CL_Walk N2 (Nat.le_of_ble_eq_true rfl) (n_end1 ?_)
    rw [wk_dp, hd1]
    exact Wk.refl _
  · rw [if_neg (fun h => by rw [decide_eq_true h.1, decide_eq_true h.2] at z; cases z)] at hd1
    rw [hd1]; exact Wk.refl _
  obtain ⟨d2, hd2⟩ : ∃ d2 : Int, d2 = if ch = ")" ∧ st ∈ ENDS then d1 - 1 else d1 := ⟨_, rfl⟩
  have e2 : nbD st ch to dp = d2 := by unfold nbD; rw [hd2, hd1]
  rw [e2] at rt
  refine s_cut [.ob (insC K a C dx (wkF st d2 ir)), .fz (.str ch), .fz (.str to)] (s_if (b := decide (ch = ")") && decide (st ∈ ENDS)) (t_and (t_test (b_op (E.b (e_var rfl)) (E.b e_str) eq_s rfl)) fun _ => t_test (by rw [← inD_str]; exact b_op (E.b (e_fldM rfl CL_Walk N1 (lk_st st d1 ir))) (E.b (e_tc TE)) (in_t rfl (scal_strs ENDS)) rfl)) (fun z => ?_) fun z => s_next (n_end1 ?_)) ?_
  · have z := Bool.and_eq_true_iff.mp z
    rw [if_pos ⟨of_decide_eq_true z.1, of_decide_eq_true z.2⟩] at hd2
    refine s_augM (x := d1) (y := 1) rfl (lk_dp st d1 ir) e_int CL_Walk N2 (Nat.le_of_ble_eq_true rfl) (n_end1 ?_)
    rw [wk_dp, hd2]
    exact Wk.refl _
  · rw [if_neg (fun h => by rw [decide_eq_true h.1, decide_eq_true h.2] at z; cases z)] at hd2
    rw [hd2]; exact Wk.refl _
  refine s_cut [.ob (insC K a C dx (wkF st d2 (if to = "range" then true else ir))), .fz (.str ch), .fz (.str to)] (s_if (b := decide (to = "range")) (t_test (b_op (E.b (e_var rfl)) (E.b e_str) eq_s rfl)) (fun z => ?_) fun z => s_next (n_end1 ?_)) ?_
  · rw [if_pos (of_decide_eq_true z)]
    refine s_fldM (d := .bool true) rfl e_bl CL_Walk N3 (Nat.le_of_ble_eq_true rfl) (n_end1 ?_)
    rw [wk_ir]
    exact Wk.refl _
  · rw [if_neg (of_decide_eq_false z)]; exact Wk.refl _
  refine s_if (b := decide (st = "range_end")) (t_test (b_op (E.b (e_fldM rfl CL_Walk N1 (lk_st st d2 _))) (E.b e_str) eq_s rfl)) (fun z => ?_) fun z => s_next (n_retM (fs' := wkF st d2 (nbI st to ir)) ?_ rt)
  · refine s_fldM (d := .bool false) rfl e_bl CL_Walk N3 (Nat.le_of_ble_eq_true rfl) (n_retM (fs' := wkF st d2 (nbI st to ir)) ?_ rt)
    rw [wk_ir, show nbI st to ir = false from if_pos (of_decide_eq_true z)]
    rfl
  · rw [show nbI st to ir = if to = "range" then true else ir from if_neg (of_decide_eq_false z)]; rfl
end
/-! ### runs of characters -/
def CHc : Str := "abcdefghijklmnopqrstuvwxyz_0123456789"
def LEc : Str := "abcdefghijklmnopqrstuvwxyz"
def DGc : Str := "0123456789"
def BLc : Str := " \t\n"
def QUc : Str := "\""
def SYc : List Str := ["(", ")", "{", "}", "[", "]", ",", "=", "!=", "==", "<", "<=", ">", ">=", "+", "-", "*"]
def runL (S : Str) : List Nat → Nat
  | [] => 0
  | c :: r => if c ∈ S.cps.toList then runL S r + 1 else 0
theorem runL_le (S : Str) : ∀ l : List Nat, runL S l ≤ l.length
  | [] => Nat.le_refl 0
  | c :: r => by
    have := runL_le S r
    unfold runL
    rw [List.length_cons]
    split <;> omega
def runE (cs : List Nat) (S : Str) (a : Nat) : Nat := a + runL S (cs.drop a)
theorem runE_end {cs : List Nat} {S : Str} {a : Nat} (h : cs.length ≤ a) : runE cs S a = a := by
  unfold runE
  rw [List.drop_of_length_le h]; rfl
theorem runE_in {cs : List Nat} {S : Str} {a c : Nat} (h : cs[a]? = some c) (hc : c ∈ S.cps.toList) : runE cs S a = runE cs S (a + 1) := by
  unfold runE
  rw [drop_get h]
  show a + (if c ∈ S.cps.toList then runL S (cs.drop (a + 1)) + 1 else 0) = _
  rw [if_pos hc]; omega
theorem runE_out {cs : List Nat} {S : Str} {a c : Nat} (h : cs[a]? = some c) (hc : c ∉ S.cps.toList) : runE cs S a = a := by
  unfold runE
  rw [drop_get h]
  show a + (if c ∈ S.cps.toList then runL S (cs.drop (a + 1)) + 1 else 0) = _
  rw [if_neg hc]; rfl
theorem runE_ge (cs : List Nat) (S : Str) (a : Nat) : a ≤ runE cs S a := Nat.le_add_right _ _
theorem runE_le {cs : List Nat} {S : Str} {a : Nat} (h : a ≤ cs.length) : runE cs S a ≤ cs.length := by
  have := runL_le S (cs.drop a)
  rw [List.length_drop] at this
  unfold runE
  omega
theorem cps_len (t : Str) : t.cps.toList.length = t.length := by rw [Array.length_toList]; rfl
theorem at_cs {t : Str} {a : Nat} (h : a < t.length) : ∃ c, t.cps.toList[a]? = some c ∧ atI t.cps.toList ((a : Nat) : Int) = some c := by
  have h2 : a < t.cps.toList.length := by rw [cps_len]; exact h
  refine ⟨t.cps.toList[a], List.getElem?_eq_getElem h2, ?_⟩
  rw [at_nat (by omega) (by omega), Int.toNat_natCast, List.getElem?_eq_getElem h2]
theorem sg_inj {c d : Nat} (h : (⟨#[c]⟩ : Str) = ⟨#[d]⟩) : c = d := by
  injection h with h
  have := congrArg Array.toList h
  injection this
section
variable {P : Program} {w : World} {K : PySem.W.Frag} {mg : Str → Option Value} {base : Heap} {f : Addr} {fd : FuncData} {Tb : List Addr} {k : Nat}
def R_run : List PyData → PyData → Prop := fun ds d => ∃ (t S : Str) (a : Nat), ds = [.str t, .int (a : Nat), .str S] ∧ t.length ≤ 9000 ∧ d = .int ((runE t.cps.toList S a : Nat) : Int)
theorem ok_run (Fn : Fun K "run_end" "run_end" s_run_end f fd) (hm : mg "run_end" = some (.ref f)) (hb : Binds K fd ["text", "at", "characters"] []) (Z : Zb mg) :
    Df P w K mg base 1 "run_end" ["text", "at", "characters"] (spD K Tb R_run) := by
  refine df_D Fn sc_run_end hm hb (fun ds d h => by obtain ⟨_, _, _, rfl, _⟩ := h; rfl) fun cdv A outer s H Ek hr => ⟨_, (pss_cons (ps_while PassesOwn.never (PW.pt (pw_and (pt_cmpR uLt (pv 1) (pe_callB (uLenK K) (by rfl) Z.len (by decide +kernel) (pa_cons (pv 0) pa_nil)) (nomark _)) (pw_and1 (pt_cmpR (uInK K) (pe_ix (ix_seqK K) (pv 0) (pv 1) (fun _ _ => rfl)) (pv 2) (by rfl))))) (pss_one (ps_aug (i := 1) sc_run_end.nd rfl (by first | exact .inl rfl | exact .inr rfl) pe_int ip_add)))
      (pss_one (ps_ret (pv 1)))),  fun ds d F0 H0 Q r rt => ?_⟩
  obtain ⟨t, S, a, rfl, hl, rfl⟩ := r
  have hz : t.length ≤ 100000 := by omega
  refine q_while (α := Nat) (fun p => [.fz (.str t), .fz (.int (p : Nat)), .fz (.str S)]) (fun p => runE t.cps.toList S p = runE t.cps.toList S a) (fun p => t.length - p) a rfl (Wk.refl _) fun p hp => ?_
  have hp : runE t.cps.toList S p = runE t.cps.toList S a := hp
  by_cases hlt : p < t.length
  · obtain ⟨c, hc, ac⟩ := at_cs hlt
    refine ⟨decide (((p : Nat) : Int) < ((t.length : Nat) : Int)) && decide (c ∈ S.cps.toList), t_and (t_test (b_op (E.b (e_var rfl)) (E.b (b_cb (ab_cons (E.b (e_var rfl)) ab_nil) (len_s hz) rfl)) lt_i rfl)) fun _ => t_test (b_op (E.b (e_op (e_var rfl) (e_var rfl) (ix_s hz ac))) (E.b (e_var rfl)) in_sg rfl), fun z => ?_, fun z => ?_⟩
    · have z2 := of_decide_eq_true (Bool.and_eq_true_iff.mp z).2
      refine s_aug rfl e_int (n_end (p + 1) ⟨?_, by show t.length - (p + 1) < t.length - p; omega⟩ (Wk.refl _))
      show runE t.cps.toList S (p + 1) = _
      rw [← hp, runE_in hc z2]
    · have z2 : c ∉ S.cps.toList := fun hin => by
        rw [decide_eq_true hin, decide_eq_true (show ((p : Nat) : Int) < ((t.length : Nat) : Int) by omega)] at z
        cases z
      rw [← hp, runE_out hc z2] at rt
      exact s_ret (e_var rfl) rt
  · refine ⟨false && false, t_and (a := false) (by rw [show false = decide (((p : Nat) : Int) < ((t.length : Nat) : Int)) from (decide_eq_false (by omega)).symm]; exact t_test (b_op (E.b (e_var rfl)) (E.b (b_cb (ab_cons (E.b (e_var rfl)) ab_nil) (len_s hz) rfl)) lt_i rfl)) (fun z => by cases z), fun z => (by cases z), fun _ => ?_⟩
    rw [← hp, runE_end (by rw [cps_len]; omega)] at rt
    exact s_ret (e_var rfl) rt
end
/-! ### one token -/
abbrev Tk := Sum (PyData × Nat) (Str × Nat × Nat)
def tkO : Tk → PyData
  | .inl p => .tuple [p.1, .int (p.2 : Nat), .none]
  | .inr q => .tuple [.none, .int (q.2.2 : Nat), .tuple [.str q.1, .int (q.2.1 : Nat)]]
def wordF (t : Str) (a : Nat) : Tk :=
  let e := runE t.cps.toList CHc a
  if 20 < e - a then .inr ("long", a + 20, e) else .inl (.tuple [.str "word", .str (cutS t (some (a : Nat)) (some (e : Nat))), .int (a : Nat)], e)
def numL : List Nat → Int → Nat → Int ⊕ Nat
  | [], v, _ => .inl v
  | d :: ds, v, p => if 10 * v + ((d : Int) - 48) > 999999999999999 then .inr p else numL ds (10 * v + ((d : Int) - 48)) (p + 1)
def digs (t : Str) (a : Nat) : List Nat := (t.cps.toList.drop a).take (runL DGc (t.cps.toList.drop a))
def numberF (t : Str) (a : Nat) : Tk :=
  match numL (digs t a) 0 a with
  | .inl v => .inl (.tuple [.str "number", .int v, .int (a : Nat)], runE t.cps.toList DGc a)
  | .inr p => .inr ("great", p, runE t.cps.toList DGc a)
def stringF (t : Str) (a : Nat) : Tk :=
  let e := runE t.cps.toList CHc (a + 1)
  if 20 < e - a - 1 then .inr ("long", a + 1 + 20, e)
  else if e = t.length then .inr ("end", e, e)
  else if t.cps.toList.getD e 0 ≠ 34 then .inr ("character", e, e)
  else .inl (.tuple [.str "string", .str (cutS t (some ((a + 1 : Nat) : Int)) (some (e : Nat))), .int (a : Nat)], e + 1)
def twoS (t : Str) (a : Nat) : Str := cutS t (some (a : Nat)) (some ((a + 2 : Nat) : Int))
def oneS (t : Str) (a : Nat) : Str := cutS t (some (a : Nat)) (some ((a + 1 : Nat) : Int))
def syT (x : Str) (a : Nat) : PyData := .tuple [.str "symbol", .str x, .int (a : Nat)]
def symbolF (t : Str) (a : Nat) : Tk :=
  if twoS t a ∈ SYc then .inl (syT (twoS t a) a, a + (twoS t a).length)
  else if oneS t a ∈ SYc then .inl (syT (oneS t a) a, a + (oneS t a).length)
  else if t.cps.toList.getD a 0 ≠ 33 then .inr ("character", a, a)
  else if a + 1 = t.length then .inr ("end", a + 1, a)
  else .inr ("character", a + 1, a)
def tokenF (t : Str) (a : Nat) : Tk :=
  if t.cps.toList.getD a 0 ∈ LEc.cps.toList then wordF t a
  else if t.cps.toList.getD a 0 ∈ DGc.cps.toList then numberF t a
  else if t.cps.toList.getD a 0 = 34 then stringF t a
  else symbolF t a
theorem run_mem {S : Str} : ∀ {l : List Nat} {i : Nat}, i < runL S l → ∃ c, l[i]? = some c ∧ c ∈ S.cps.toList
  | [], i, h => absurd h (Nat.not_lt_zero _)
  | c :: r, i, h => by
    unfold runL at h
    by_cases hc : c ∈ S.cps.toList
    · rw [if_pos hc] at h
      cases i with
      | zero => exact ⟨c, rfl, hc⟩
      | succ j => exact run_mem (l := r) (i := j) (by omega)
    · rw [if_neg hc] at h; exact absurd h (Nat.not_lt_zero _)
theorem digs_len (t : Str) (a : Nat) : (digs t a).length = runL DGc (t.cps.toList.drop a) := by
  unfold digs
  rw [List.length_take]
  have := runL_le DGc (t.cps.toList.drop a)
  omega
theorem digs_get {t : Str} {a i : Nat} (h : i < (digs t a).length) : ∃ c, (digs t a)[i]? = some c ∧ t.cps.toList[a + i]? = some c ∧ c ∈ DGc.cps.toList := by
  rw [digs_len] at h
  obtain ⟨c, h1, h2⟩ := run_mem h
  refine ⟨c, ?_, ?_, h2⟩
  · unfold digs; rw [List.getElem?_take_of_lt h]; exact h1
  · rw [List.getElem?_drop] at h1; exact h1
theorem getD_at {l : List Nat} {a c : Nat} (h : l[a]? = some c) : l.getD a 0 = c := by
  rw [List.getD_eq_getElem?_getD, h]; rfl
theorem qu_eq : QUc = ⟨#[34]⟩ := by decide +kernel
theorem ex_eq : ("!" : Str) = ⟨#[33]⟩ := by decide +kernel
theorem sg_dec (c d : Nat) : decide ((⟨#[c]⟩ : Str) = ⟨#[d]⟩) = decide (c = d) := by
  rw [Bool.eq_iff_iff, decide_eq_true_iff, decide_eq_true_iff]
  exact ⟨sg_inj, fun h => by rw [h]⟩
section
variable {P : Program} {w : World} {K : PySem.W.Frag} {mg : Str → Option Value} {base : Heap} {f : Addr} {fd : FuncData} {Tb : List Addr} {k : Nat}
def R_tko (T : Str → Nat → Tk) : List PyData → PyData → Prop := fun ds d => ∃ (t : Str) (a : Nat), ds = [.str t, .int (a : Nat)] ∧ t.length ≤ 9000 ∧ a < t.length ∧ d = tkO (T t a)
theorem ok_word (Fn : Fun K "word_at" "word_at" s_word_at f fd) (hm : mg "word_at" = some (.ref f)) (hb : Binds K fd ["text", "at"] []) (Z : Zb mg)
    (C_CHARACTERS : ∃ u, mg "CHARACTERS" = some u ∧ RelV (.str CHc) u) (C_LONGEST_WORD : ∃ u, mg "LONGEST_WORD" = some u ∧ RelV (.int 20) u)
    (D_run_end : Df P w K mg base 1 "run_end" ["text", "at", "characters"] (spD K Tb R_run)) :
    Df P w K mg base 2 "word_at" ["text", "at"] (spD K Tb (R_tko wordF)) := by
  refine df_D Fn sc_word_at hm hb (fun ds d h => by obtain ⟨_, _, rfl, _⟩ := h; rfl) fun cdv A outer s H Ek hr => ⟨_, (pss_cons (ps_set (i := 2) sc_word_at.nd rfl (by first | exact .inl rfl | exact .inr rfl) (pe_df D_run_end hr (by first | decide | exact Nat.le_refl _ | omega) (by rfl) (pa_cons (pv 0) (pa_cons (pv 1) (pa_cons (pe_gc C_CHARACTERS (by rfl)) pa_nil)))))
      (pss_cons (ps_if (pt_cmpR op_gt (pe_op op_sub (pv 2) (pv 1)) (pe_gc C_LONGEST_WORD (by rfl)) (nomark _)) (pss_one (ps_ret (pe_tup (pa_cons pe_non (pa_cons (pv 2) (pa_cons (pe_tup (pa_cons pe_str (pa_cons (pe_op (uAddK K) (pv 1) (pe_gc C_LONGEST_WORD (by rfl))) pa_nil))) pa_nil)))))) pss_nil)
      (pss_one (ps_ret (pe_tup (pa_cons (pe_tup (pa_cons pe_str (pa_cons (pe_slice (uSlK K) (pv 0) (po_some (pv 1)) (po_some (pv 2))) (pa_cons (pv 1) pa_nil)))) (pa_cons (pv 2) (pa_cons pe_non pa_nil)))))))),  fun ds d F0 H0 Q r rt => ?_⟩
  obtain ⟨t, a, rfl, hl, ha, rfl⟩ := r
  have hz : t.length ≤ 100000 := by omega
  refine q_asg (d := .int ((runE t.cps.toList CHc a : Nat) : Int)) (e_call (ds := [.str t, .int (a : Nat), .str CHc]) (a_cons (e_var rfl) (a_cons (e_var rfl) (a_cons e_str a_nil))) ⟨t, CHc, a, rfl, hl, rfl⟩) ?_
  have ge := runE_ge t.cps.toList CHc a
  unfold wordF at rt
  generalize runE t.cps.toList CHc a = e at ge rt ⊢
  refine q_if (b := decide ((e : Int) - (a : Int) > 20)) (t_test (b_op (E.b (e_op (e_var rfl) (e_var rfl) sub_i)) (E.b e_int) gt_i rfl)) (fun z => ?_) fun z => s_next (n_go ?_)
  · have z := of_decide_eq_true z
    have rt : Rt _ _ (tkO (if 20 < e - a then .inr ("long", a + 20, e) else _)) := rt
    rw [if_pos (by omega)] at rt
    have e1 : ((a + 20 : Nat) : Int) = (a : Int) + 20 := by omega
    exact s_ret (e_tup (ds := [.none, .int (e : Nat), .tuple [.str "long", .int ((a + 20 : Nat) : Int)]]) (a_cons e_non (a_cons (e_var rfl) (a_cons (e_tup (ds := [.str "long", .int ((a + 20 : Nat) : Int)]) (a_cons e_str (a_cons (by rw [e1]; exact e_op (e_var rfl) e_int add_i) a_nil)) (Nat.le_of_ble_eq_true rfl)) a_nil))) (Nat.le_of_ble_eq_true rfl)) rt
  · have z := of_decide_eq_false z
    have rt : Rt _ _ (tkO (if 20 < e - a then .inr ("long", a + 20, e) else .inl (.tuple [.str "word", .str (cutS t (some (a : Nat)) (some (e : Nat))), .int (a : Nat)], e))) := rt
    rw [if_neg (by omega)] at rt
    exact s_ret (e_tup (ds := [.tuple [.str "word", .str (cutS t (some (a : Nat)) (some (e : Nat))), .int (a : Nat)], .int (e : Nat), .none]) (a_cons (e_tup (ds := [.str "word", .str (cutS t (some (a : Nat)) (some (e : Nat))), .int (a : Nat)]) (a_cons e_str (a_cons (e_slS (e_var rfl) hz (o_some (e_var rfl)) (o_some (e_var rfl))) (a_cons (e_var rfl) a_nil))) (Nat.le_of_ble_eq_true rfl)) (a_cons (e_var rfl) (a_cons e_non a_nil))) (Nat.le_of_ble_eq_true rfl)) rt
theorem ok_number (Fn : Fun K "number_at" "number_at" s_number_at f fd) (hm : mg "number_at" = some (.ref f)) (hb : Binds K fd ["text", "at"] []) (Z : Zb mg)
    (C_DIGITS : ∃ u, mg "DIGITS" = some u ∧ RelV (.str DGc) u) (C_GREATEST_VALUE : ∃ u, mg "GREATEST_VALUE" = some u ∧ RelV (.int 999999999999999) u)
    (D_run_end : Df P w K mg base 1 "run_end" ["text", "at", "characters"] (spD K Tb R_run)) :
    Df P w K mg base 2 "number_at" ["text", "at"] (spD K Tb (R_tko numberF)) := by
  refine df_D Fn sc_number_at hm hb (fun ds d h => by obtain ⟨_, _, rfl, _⟩ := h; rfl) fun cdv A outer s H Ek hr => ⟨_, (pss_cons (ps_set (i := 2) sc_number_at.nd rfl (by first | exact .inl rfl | exact .inr rfl) (pe_df D_run_end hr (by first | decide | exact Nat.le_refl _ | omega) (by rfl) (pa_cons (pv 0) (pa_cons (pv 1) (pa_cons (pe_gc C_DIGITS (by rfl)) pa_nil)))))
      (pss_cons (ps_set (i := 3) sc_number_at.nd rfl (by first | exact .inl rfl | exact .inr rfl) pe_int)
      (pss_cons (ps_for PassesOwn.never rfl (pi_range2 (by rfl) Z.range (pa_cons (pv 1) (pa_cons (pv 2) pa_nil))) (pg_name (i := 4) sc_number_at.nd rfl (by first | exact .inl rfl | exact .inr rfl)) (pss_cons (ps_set (i := 3) sc_number_at.nd rfl (by first | exact .inl rfl | exact .inr rfl) (pe_op (uAddK K) (pe_op uMul pe_int (pv 3)) (pe_callTy uIntS (by rfl) Z.int (by decide +kernel) (pa_cons (pe_ix (ix_seqK K) (pv 0) (pv 4) (fun _ _ => rfl)) pa_nil))))
      (pss_one (ps_if (pt_cmpR op_gt (pv 3) (pe_gc C_GREATEST_VALUE (by rfl)) (nomark _)) (pss_one (ps_ret (pe_tup (pa_cons pe_non (pa_cons (pv 2) (pa_cons (pe_tup (pa_cons pe_str (pa_cons (pv 4) pa_nil))) pa_nil)))))) pss_nil))))
      (pss_one (ps_ret (pe_tup (pa_cons (pe_tup (pa_cons pe_str (pa_cons (pv 3) (pa_cons (pv 1) pa_nil)))) (pa_cons (pv 2) (pa_cons pe_non pa_nil))))))))),  fun ds d F0 H0 Q r rt => ?_⟩
  obtain ⟨t, a, rfl, hl, ha, rfl⟩ := r
  have hz : t.length ≤ 100000 := by omega
  refine q_asg (d := .int ((runE t.cps.toList DGc a : Nat) : Int)) (e_call (ds := [.str t, .int (a : Nat), .str DGc]) (a_cons (e_var rfl) (a_cons (e_var rfl) (a_cons e_str a_nil))) ⟨t, DGc, a, rfl, hl, rfl⟩) ?_
  refine q_asg (d := .int 0) e_int ?_
  have ge := runE_ge t.cps.toList DGc a
  have le := runE_le (cs := t.cps.toList) (S := DGc) (a := a) (by rw [cps_len]; omega)
  rw [cps_len] at le
  have dl := digs_len t a
  have ee : runE t.cps.toList DGc a = a + (digs t a).length := by rw [dl]; rfl
  unfold numberF at rt
  rw [ee] at ge le rt ⊢
  have dg : ∀ i, i < (digs t a).length → ∃ c, (digs t a)[i]? = some c ∧ t.cps.toList[a + i]? = some c ∧ c ∈ DGc.cps.toList := fun i hi => digs_get hi
  generalize digs t a = L at ge le dl rt dg ⊢
  refine q_for (α := Int) (fun i v => [.fz (.str t), .fz (.int (a : Nat)), .fz (.int ((a + L.length : Nat) : Int)), .fz (.int v), .un]) (fun i v => numL (L.drop i) v (a + i) = numL L 0 a) (it_rng2 (lo := ((a : Nat) : Int)) (hi := ((a + L.length : Nat) : Int)) (a_cons (e_var rfl) (a_cons (e_var rfl) a_nil)) (by omega) (by omega) (by omega) (by omega)) 0 rfl (Wk.refl _) (fun F1 i v d hd hv => ?_) fun v hv => ?_
  · obtain ⟨hi, rfl⟩ := rngD_get hd
    have hi : i < L.length := by omega
    obtain ⟨c, h1, h2, h3⟩ := dg i hi
    refine ⟨_, _, g_name, ?_⟩
    have ac : atI t.cps.toList ((a : Int) + (i : Nat)) = some c := by
      have h2l := (List.getElem?_eq_some_iff.mp h2).1
      rw [at_nat (by omega) (by omega), show ((a : Int) + (i : Nat)).toNat = a + i by omega, h2]
    have hv : numL (L.drop i) v (a + i) = numL L 0 a := hv
    rw [drop_get h1] at hv
    have hv : (if 10 * v + ((c : Int) - 48) > 999999999999999 then .inr (a + i) else numL (L.drop (i + 1)) (10 * v + ((c : Int) - 48)) (a + i + 1)) = numL L 0 a := hv
    refine q_asg (d := .int (10 * v + ((c : Int) - 48))) (e_op (e_op e_int (e_var rfl) (mul_i (.inl ⟨by decide, by decide⟩))) (b_cb (ab_cons (E.b (e_op (e_var rfl) (e_var rfl) (ix_s hz ac))) ab_nil) (int_dg h3) rfl) add_i) ?_
    refine s_if (b := decide (10 * v + ((c : Int) - 48) > 999999999999999)) (t_test (b_op (E.b (e_var rfl)) (E.b e_int) gt_i rfl)) (fun z => ?_) fun z => ?_
    · rw [if_pos (of_decide_eq_true z)] at hv
      rw [← hv] at rt
      exact s_ret (e_tup (ds := [.none, .int ((a + L.length : Nat) : Int), .tuple [.str "great", .int ((a + i : Nat) : Int)]]) (a_cons e_non (a_cons (e_var rfl) (a_cons (e_tup (ds := [.str "great", .int ((a + i : Nat) : Int)]) (a_cons e_str (a_cons (by rw [show ((a + i : Nat) : Int) = (a : Int) + (i : Nat) by omega]; exact e_var rfl) a_nil)) (Nat.le_of_ble_eq_true rfl)) a_nil))) (Nat.le_of_ble_eq_true rfl)) rt
    · rw [if_neg (of_decide_eq_false z)] at hv
      exact s_next (n_end (10 * v + ((c : Int) - 48)) hv (.keep rfl (.keep rfl (.keep rfl (.keep rfl (.drop .nil))))))
  · have hv : numL (L.drop (rngD ((a : Nat) : Int) (((a + L.length : Nat) : Int) - ((a : Nat) : Int)).toNat).length) v (a + (rngD ((a : Nat) : Int) (((a + L.length : Nat) : Int) - ((a : Nat) : Int)).toNat).length) = numL L 0 a := hv
    rw [rngD_len, show (((a + L.length : Nat) : Int) - ((a : Nat) : Int)).toNat = L.length by omega, List.drop_length] at hv
    have hv : .inl v = numL L 0 a := hv
    rw [← hv] at rt
    exact s_ret (e_tup (ds := [.tuple [.str "number", .int v, .int (a : Nat)], .int ((a + L.length : Nat) : Int), .none]) (a_cons (e_tup (ds := [.str "number", .int v, .int (a : Nat)]) (a_cons e_str (a_cons (e_var rfl) (a_cons (e_var rfl) a_nil))) (Nat.le_of_ble_eq_true rfl)) (a_cons (e_var rfl) (a_cons e_non a_nil))) (Nat.le_of_ble_eq_true rfl)) rt
theorem ok_string (Fn : Fun K "string_at" "string_at" s_string_at f fd) (hm : mg "string_at" = some (.ref f)) (hb : Binds K fd ["text", "at"] []) (Z : Zb mg)
    (C_CHARACTERS : ∃ u, mg "CHARACTERS" = some u ∧ RelV (.str CHc) u) (C_LONGEST_WORD : ∃ u, mg "LONGEST_WORD" = some u ∧ RelV (.int 20) u) (C_QUOTE : ∃ u, mg "QUOTE" = some u ∧ RelV (.str QUc) u)
    (D_run_end : Df P w K mg base 1 "run_end" ["text", "at", "characters"] (spD K Tb R_run)) :
    Df P w K mg base 2 "string_at" ["text", "at"] (spD K Tb (R_tko stringF)) := by
  refine df_D Fn sc_string_at hm hb (fun ds d h => by obtain ⟨_, _, rfl, _⟩ := h; rfl) fun cdv A outer s H Ek hr => ⟨_, (pss_cons (ps_set (i := 2) sc_string_at.nd rfl (by first | exact .inl rfl | exact .inr rfl) (pe_df D_run_end hr (by first | decide | exact Nat.le_refl _ | omega) (by rfl) (pa_cons (pv 0) (pa_cons (pe_op (uAddK K) (pv 1) pe_int) (pa_cons (pe_gc C_CHARACTERS (by rfl)) pa_nil)))))
      (pss_cons (ps_if (pt_cmpR op_gt (pe_op op_sub (pe_op op_sub (pv 2) (pv 1)) pe_int) (pe_gc C_LONGEST_WORD (by rfl)) (nomark _)) (pss_one (ps_ret (pe_tup (pa_cons pe_non (pa_cons (pv 2) (pa_cons (pe_tup (pa_cons pe_str (pa_cons (pe_op (uAddK K) (pe_op (uAddK K) (pv 1) pe_int) (pe_gc C_LONGEST_WORD (by rfl))) pa_nil))) pa_nil)))))) pss_nil)
      (pss_cons (ps_if (pt_cmpR (uEqK K hr.units) (pv 2) (pe_callB (uLenK K) (by rfl) Z.len (by decide +kernel) (pa_cons (pv 0) pa_nil)) (nomark _)) (pss_one (ps_ret (pe_tup (pa_cons pe_non (pa_cons (pv 2) (pa_cons (pe_tup (pa_cons pe_str (pa_cons (pv 2) pa_nil))) pa_nil)))))) pss_nil)
      (pss_cons (ps_if (pt_cmpR (uNeK K hr.units) (pe_ix (ix_seqK K) (pv 0) (pv 2) (fun _ _ => rfl)) (pe_gc C_QUOTE (by rfl)) (nomark _)) (pss_one (ps_ret (pe_tup (pa_cons pe_non (pa_cons (pv 2) (pa_cons (pe_tup (pa_cons pe_str (pa_cons (pv 2) pa_nil))) pa_nil)))))) pss_nil)
      (pss_one (ps_ret (pe_tup (pa_cons (pe_tup (pa_cons pe_str (pa_cons (pe_slice (uSlK K) (pv 0) (po_some (pe_op (uAddK K) (pv 1) pe_int)) (po_some (pv 2))) (pa_cons (pv 1) pa_nil)))) (pa_cons (pe_op (uAddK K) (pv 2) pe_int) (pa_cons pe_non pa_nil)))))))))),  fun ds d F0 H0 Q r rt => ?_⟩
  obtain ⟨t, a, rfl, hl, ha, rfl⟩ := r
  have hz : t.length ≤ 100000 := by omega
  have e0 : ((a + 1 : Nat) : Int) = (a : Int) + 1 := by omega
  refine q_asg (d := .int ((runE t.cps.toList CHc (a + 1) : Nat) : Int)) (e_call (ds := [.str t, .int ((a + 1 : Nat) : Int), .str CHc]) (a_cons (e_var rfl) (a_cons (by rw [e0]; exact e_op (e_var rfl) e_int add_i) (a_cons e_str a_nil))) ⟨t, CHc, a + 1, rfl, hl, rfl⟩) ?_
  have ge := runE_ge t.cps.toList CHc (a + 1)
  have le := runE_le (cs := t.cps.toList) (S := CHc) (a := a + 1) (by rw [cps_len]; omega)
  rw [cps_len] at le
  unfold stringF at rt
  generalize runE t.cps.toList CHc (a + 1) = e at ge le rt ⊢
  have rt : Rt _ _ (tkO (if 20 < e - a - 1 then .inr ("long", a + 1 + 20, e) else if e = t.length then .inr ("end", e, e) else if t.cps.toList.getD e 0 ≠ 34 then .inr ("character", e, e) else .inl (.tuple [.str "string", .str (cutS t (some ((a + 1 : Nat) : Int)) (some (e : Nat))), .int (a : Nat)], e + 1))) := rt
  refine q_if (b := decide ((e : Int) - (a : Int) - 1 > 20)) (t_test (b_op (E.b (e_op (e_op (e_var rfl) (e_var rfl) sub_i) e_int sub_i)) (E.b e_int) gt_i rfl)) (fun z => ?_) fun z => s_next (n_go ?_)
  · have z := of_decide_eq_true z
    rw [if_pos (by omega)] at rt
    have e1 : ((a + 1 + 20 : Nat) : Int) = (a : Int) + 1 + 20 := by omega
    exact s_ret (e_tup (ds := [.none, .int (e : Nat), .tuple [.str "long", .int ((a + 1 + 20 : Nat) : Int)]]) (a_cons e_non (a_cons (e_var rfl) (a_cons (e_tup (ds := [.str "long", .int ((a + 1 + 20 : Nat) : Int)]) (a_cons e_str (a_cons (by rw [e1]; exact e_op (e_op (e_var rfl) e_int add_i) e_int add_i) a_nil)) (Nat.le_of_ble_eq_true rfl)) a_nil))) (Nat.le_of_ble_eq_true rfl)) rt
  have z := of_decide_eq_false z
  rw [if_neg (by omega)] at rt
  refine q_if (b := decide (((e : Nat) : Int) = ((t.length : Nat) : Int))) (t_test (b_op (E.b (e_var rfl)) (E.b (b_cb (ab_cons (E.b (e_var rfl)) ab_nil) (len_s hz) rfl)) eq_i rfl)) (fun z2 => ?_) fun z2 => s_next (n_go ?_)
  · have z2 := of_decide_eq_true z2
    rw [if_pos (by omega)] at rt
    exact s_ret (e_tup (ds := [.none, .int (e : Nat), .tuple [.str "end", .int (e : Nat)]]) (a_cons e_non (a_cons (e_var rfl) (a_cons (e_tup (ds := [.str "end", .int (e : Nat)]) (a_cons e_str (a_cons (e_var rfl) a_nil)) (Nat.le_of_ble_eq_true rfl)) a_nil))) (Nat.le_of_ble_eq_true rfl)) rt
  have z2 := of_decide_eq_false z2
  rw [if_neg (by omega)] at rt
  obtain ⟨c, hc, ac⟩ := at_cs (t := t) (a := e) (by omega)
  rw [getD_at hc] at rt
  refine q_if (b := !decide ((⟨#[c]⟩ : Str) = QUc)) (t_test (b_op (E.b (e_op (e_var rfl) (e_var rfl) (ix_s hz ac))) (E.b e_str) ne_s rfl)) (fun z3 => ?_) fun z3 => s_next (n_go ?_)
  · rw [qu_eq, sg_dec, Bool.not_eq_true'] at z3
    rw [if_pos (of_decide_eq_false z3)] at rt
    exact s_ret (e_tup (ds := [.none, .int (e : Nat), .tuple [.str "character", .int (e : Nat)]]) (a_cons e_non (a_cons (e_var rfl) (a_cons (e_tup (ds := [.str "character", .int (e : Nat)]) (a_cons e_str (a_cons (e_var rfl) a_nil)) (Nat.le_of_ble_eq_true rfl)) a_nil))) (Nat.le_of_ble_eq_true rfl)) rt
  · rw [qu_eq, sg_dec, Bool.not_eq_false'] at z3
    rw [if_neg (fun h => h (of_decide_eq_true z3))] at rt
    have e2 : ((e + 1 : Nat) : Int) = (e : Int) + 1 := by omega
    exact s_ret (e_tup (ds := [.tuple [.str "string", .str (cutS t (some ((a + 1 : Nat) : Int)) (some (e : Nat))), .int (a : Nat)], .int ((e + 1 : Nat) : Int), .none]) (a_cons (e_tup (ds := [.str "string", .str (cutS t (some ((a + 1 : Nat) : Int)) (some (e : Nat))), .int (a : Nat)]) (a_cons e_str (a_cons (e_slS (e_var rfl) hz (o_some (by rw [e0]; exact e_op (e_var rfl) e_int add_i)) (o_some (e_var rfl))) (a_cons (e_var rfl) a_nil))) (Nat.le_of_ble_eq_true rfl)) (a_cons (by rw [e2]; exact e_op (e_var rfl) e_int add_i) (a_cons e_non a_nil))) (Nat.le_of_ble_eq_true rfl)) rt
end
/-! ### symbols, one token, the scan -/
theorem cutS_len (t : Str) (lo hi : Option Int) : (cutS t lo hi).length ≤ t.length := by
  show ((List.take _ (List.drop _ t.cps.toList)).toArray).size ≤ _
  rw [List.size_toArray, List.length_take, List.length_drop, cps_len]
  omega
theorem sy_len : ∀ x ∈ SYc, 1 ≤ x.length ∧ x.length ≤ 2 := by decide +kernel
section
variable {P : Program} {w : World} {K : PySem.W.Frag} {mg : Str → Option Value} {base : Heap} {f : Addr} {fd : FuncData} {Tb : List Addr} {k : Nat}
theorem ok_symbol {pS : Addr} (Fn : Fun K "symbol_at" "symbol_at" s_symbol_at f fd) (hm : mg "symbol_at" = some (.ref f)) (hb : Binds K fd ["text", "at"] []) (Z : Zb mg)
    (TS : TcOk K mg "SYMBOLS" pS SYc) :
    Df P w K mg base 1 "symbol_at" ["text", "at"] (spD K Tb (R_tko symbolF)) := by
  have C_SYMBOLS := TS.c
  refine df_D Fn sc_symbol_at hm hb (fun ds d h => by obtain ⟨_, _, rfl, _⟩ := h; rfl) fun cdv A outer s H Ek hr => ⟨_, (pss_cons (ps_for PassesOwn.never rfl (pi_any (pe_tup (pa_cons (pe_op (uAddK K) (pv 1) pe_int) (pa_cons (pe_op (uAddK K) (pv 1) pe_int) pa_nil)))) (pg_name (i := 2) sc_symbol_at.nd rfl (by first | exact .inl rfl | exact .inr rfl)) (pss_one (ps_if (pt_cmpR (uInK K) (pe_slice (uSlK K) (pv 0) (po_some (pv 1)) (po_some (pv 2))) (pe_gc C_SYMBOLS (by rfl)) (by rfl)) (pss_one (ps_ret (pe_tup (pa_cons (pe_tup (pa_cons pe_str (pa_cons (pe_slice (uSlK K) (pv 0) (po_some (pv 1)) (po_some (pv 2))) (pa_cons (pv 1) pa_nil)))) (pa_cons (pe_op (uAddK K) (pv 1) (pe_callB (uLenK K) (by rfl) Z.len (by decide +kernel) (pa_cons (pe_slice (uSlK K) (pv 0) (po_some (pv 1)) (po_some (pv 2))) pa_nil))) (pa_cons pe_non pa_nil)))))) pss_nil)))
      (pss_cons (ps_if (pt_cmpR (uNeK K hr.units) (pe_ix (ix_seqK K) (pv 0) (pv 1) (fun _ _ => rfl)) pe_str (nomark _)) (pss_one (ps_ret (pe_tup (pa_cons pe_non (pa_cons (pv 1) (pa_cons (pe_tup (pa_cons pe_str (pa_cons (pv 1) pa_nil))) pa_nil)))))) pss_nil)
      (pss_cons (ps_if (pt_cmpR (uEqK K hr.units) (pe_op (uAddK K) (pv 1) pe_int) (pe_callB (uLenK K) (by rfl) Z.len (by decide +kernel) (pa_cons (pv 0) pa_nil)) (nomark _)) (pss_one (ps_ret (pe_tup (pa_cons pe_non (pa_cons (pv 1) (pa_cons (pe_tup (pa_cons pe_str (pa_cons (pe_op (uAddK K) (pv 1) pe_int) pa_nil))) pa_nil)))))) pss_nil)
      (pss_one (ps_ret (pe_tup (pa_cons pe_non (pa_cons (pv 1) (pa_cons (pe_tup (pa_cons pe_str (pa_cons (pe_op (uAddK K) (pv 1) pe_int) pa_nil))) pa_nil))))))))),  fun ds d F0 H0 Q r rt => ?_⟩
  obtain ⟨t, a, rfl, hl, ha, rfl⟩ := r
  have hz : t.length ≤ 100000 := by omega
  have e2 : ((a + 2 : Nat) : Int) = (a : Int) + 2 := by omega
  have e1 : ((a + 1 : Nat) : Int) = (a : Int) + 1 := by omega
  have rt : Rt _ _ (tkO (if twoS t a ∈ SYc then .inl (syT (twoS t a) a, a + (twoS t a).length) else if oneS t a ∈ SYc then .inl (syT (oneS t a) a, a + (oneS t a).length) else if t.cps.toList.getD a 0 ≠ 33 then .inr ("character", a, a) else if a + 1 = t.length then .inr ("end", a + 1, a) else .inr ("character", a + 1, a))) := rt
  have l2 := cutS_len t (some (a : Nat)) (some ((a + 2 : Nat) : Int))
  have l1 := cutS_len t (some (a : Nat)) (some ((a + 1 : Nat) : Int))
  refine q_for (α := Unit) (fun _ _ => [.fz (.str t), .fz (.int (a : Nat)), .un]) (fun i _ => (1 ≤ i → twoS t a ∉ SYc) ∧ (2 ≤ i → oneS t a ∉ SYc)) (ds := [.int ((a + 2 : Nat) : Int), .int ((a + 1 : Nat) : Int)]) (it_at (e_tup (a_cons (by rw [e2]; exact e_op (e_var rfl) e_int add_i) (a_cons (by rw [e1]; exact e_op (e_var rfl) e_int add_i) a_nil)) (Nat.le_of_ble_eq_true rfl))) () ⟨fun h => absurd h (by decide), fun h => absurd h (by decide)⟩ (Wk.refl _) (fun F1 i _ d hd hp => ?_) fun _ hp => ?_
  · obtain ⟨hp1, hp2⟩ := hp
    match i, hd with
    | 0, hd =>
      have hd : some (PyData.int ((a + 2 : Nat) : Int)) = some d := hd
      cases hd
      refine ⟨_, _, g_name, ?_⟩
      refine s_if (b := decide (twoS t a ∈ SYc)) (t_test (by rw [← inD_str]; exact b_op (E.b (e_slS (e_var rfl) hz (o_some (e_var rfl)) (o_some (e_var rfl)))) (E.b (e_tc TS)) (in_t rfl (scal_strs SYc)) rfl)) (fun z => ?_) fun z => s_next (n_end () ⟨fun _ => of_decide_eq_false z, fun h => absurd h (by decide)⟩ (.keep rfl (.keep rfl (.drop .nil))))
      rw [if_pos (of_decide_eq_true z)] at rt
      have e3 : ((a + (twoS t a).length : Nat) : Int) = (a : Int) + ((twoS t a).length : Nat) := by omega
      exact s_ret (e_tup (ds := [syT (twoS t a) a, .int ((a + (twoS t a).length : Nat) : Int), .none]) (a_cons (e_tup (ds := [.str "symbol", .str (twoS t a), .int (a : Nat)]) (a_cons e_str (a_cons (e_slS (e_var rfl) hz (o_some (e_var rfl)) (o_some (e_var rfl))) (a_cons (e_var rfl) a_nil))) (Nat.le_of_ble_eq_true rfl)) (a_cons (by rw [e3]; exact e_op (e_var rfl) (b_cb (ab_cons (E.b (e_slS (e_var rfl) hz (o_some (e_var rfl)) (o_some (e_var rfl)))) ab_nil) (len_s (by omega)) rfl) add_i) (a_cons e_non a_nil))) (Nat.le_of_ble_eq_true rfl)) rt
    | 1, hd =>
      have hd : some (PyData.int ((a + 1 : Nat) : Int)) = some d := hd
      cases hd
      rw [if_neg (hp1 (Nat.le_refl 1))] at rt
      refine ⟨_, _, g_name, ?_⟩
      refine s_if (b := decide (oneS t a ∈ SYc)) (t_test (by rw [← inD_str]; exact b_op (E.b (e_slS (e_var rfl) hz (o_some (e_var rfl)) (o_some (e_var rfl)))) (E.b (e_tc TS)) (in_t rfl (scal_strs SYc)) rfl)) (fun z => ?_) fun z => s_next (n_end () ⟨fun _ => hp1 (Nat.le_refl 1), fun _ => of_decide_eq_false z⟩ (.keep rfl (.keep rfl (.drop .nil))))
      rw [if_pos (of_decide_eq_true z)] at rt
      have e3 : ((a + (oneS t a).length : Nat) : Int) = (a : Int) + ((oneS t a).length : Nat) := by omega
      exact s_ret (e_tup (ds := [syT (oneS t a) a, .int ((a + (oneS t a).length : Nat) : Int), .none]) (a_cons (e_tup (ds := [.str "symbol", .str (oneS t a), .int (a : Nat)]) (a_cons e_str (a_cons (e_slS (e_var rfl) hz (o_some (e_var rfl)) (o_some (e_var rfl))) (a_cons (e_var rfl) a_nil))) (Nat.le_of_ble_eq_true rfl)) (a_cons (by rw [e3]; exact e_op (e_var rfl) (b_cb (ab_cons (E.b (e_slS (e_var rfl) hz (o_some (e_var rfl)) (o_some (e_var rfl)))) ab_nil) (len_s (by omega)) rfl) add_i) (a_cons e_non a_nil))) (Nat.le_of_ble_eq_true rfl)) rt
    | i + 2, hd => cases hd
  · have hp1 : twoS t a ∉ SYc := hp.1 (Nat.le_of_ble_eq_true rfl)
    have hp2 : oneS t a ∉ SYc := hp.2 (Nat.le_of_ble_eq_true rfl)
    rw [if_neg hp1, if_neg hp2] at rt
    obtain ⟨c, hc, ac⟩ := at_cs (t := t) (a := a) ha
    rw [getD_at hc] at rt
    refine q_if (b := !decide ((⟨#[c]⟩ : Str) = "!")) (t_test (b_op (E.b (e_op (e_var rfl) (e_var rfl) (ix_s hz ac))) (E.b e_str) ne_s rfl)) (fun z3 => ?_) fun z3 => s_next (n_go ?_)
    · rw [ex_eq, sg_dec, Bool.not_eq_true'] at z3
      rw [if_pos (of_decide_eq_false z3)] at rt
      exact s_ret (e_tup (ds := [.none, .int (a : Nat), .tuple [.str "character", .int (a : Nat)]]) (a_cons e_non (a_cons (e_var rfl) (a_cons (e_tup (ds := [.str "character", .int (a : Nat)]) (a_cons e_str (a_cons (e_var rfl) a_nil)) (Nat.le_of_ble_eq_true rfl)) a_nil))) (Nat.le_of_ble_eq_true rfl)) rt
    rw [ex_eq, sg_dec, Bool.not_eq_false'] at z3
    rw [if_neg (fun h => h (of_decide_eq_true z3))] at rt
    refine q_if (b := decide ((a : Int) + 1 = ((t.length : Nat) : Int))) (t_test (b_op (E.b (e_op (e_var rfl) e_int add_i)) (E.b (b_cb (ab_cons (E.b (e_var rfl)) ab_nil) (len_s hz) rfl)) eq_i rfl)) (fun z2 => ?_) fun z2 => s_next (n_go ?_)
    · have z2 := of_decide_eq_true z2
      rw [if_pos (by omega)] at rt
      exact s_ret (e_tup (ds := [.none, .int (a : Nat), .tuple [.str "end", .int ((a + 1 : Nat) : Int)]]) (a_cons e_non (a_cons (e_var rfl) (a_cons (e_tup (ds := [.str "end", .int ((a + 1 : Nat) : Int)]) (a_cons e_str (a_cons (by rw [e1]; exact e_op (e_var rfl) e_int add_i) a_nil)) (Nat.le_of_ble_eq_true rfl)) a_nil))) (Nat.le_of_ble_eq_true rfl)) rt
    · have z2 := of_decide_eq_false z2
      rw [if_neg (by omega)] at rt
      exact s_ret (e_tup (ds := [.none, .int (a : Nat), .tuple [.str "character", .int ((a + 1 : Nat) : Int)]]) (a_cons e_non (a_cons (e_var rfl) (a_cons (e_tup (ds := [.str "character", .int ((a + 1 : Nat) : Int)]) (a_cons e_str (a_cons (by rw [e1]; exact e_op (e_var rfl) e_int add_i) a_nil)) (Nat.le_of_ble_eq_true rfl)) a_nil))) (Nat.le_of_ble_eq_true rfl)) rt
theorem ok_token (Fn : Fun K "token_at" "token_at" s_token_at f fd) (hm : mg "token_at" = some (.ref f)) (hb : Binds K fd ["text", "at"] []) (Z : Zb mg)
    (C_LETTERS : ∃ u, mg "LETTERS" = some u ∧ RelV (.str LEc) u) (C_DIGITS : ∃ u, mg "DIGITS" = some u ∧ RelV (.str DGc) u) (C_QUOTE : ∃ u, mg "QUOTE" = some u ∧ RelV (.str QUc) u)
    (D_word_at : Df P w K mg base 2 "word_at" ["text", "at"] (spD K Tb (R_tko wordF)))
    (D_number_at : Df P w K mg base 2 "number_at" ["text", "at"] (spD K Tb (R_tko numberF)))
    (D_string_at : Df P w K mg base 2 "string_at" ["text", "at"] (spD K Tb (R_tko stringF)))
    (D_symbol_at : Df P w K mg base 1 "symbol_at" ["text", "at"] (spD K Tb (R_tko symbolF))) :
    Df P w K mg base 3 "token_at" ["text", "at"] (spD K Tb (R_tko tokenF)) := by
  refine df_D Fn sc_token_at hm hb (fun ds d h => by obtain ⟨_, _, rfl, _⟩ := h; rfl) fun cdv A outer s H Ek hr => ⟨_, (pss_cons (ps_if (pt_cmpR (uInK K) (pe_ix (ix_seqK K) (pv 0) (pv 1) (fun _ _ => rfl)) (pe_gc C_LETTERS (by rfl)) (by rfl)) (pss_one (ps_ret (pe_df D_word_at hr (by first | decide | exact Nat.le_refl _ | omega) (by rfl) (pa_cons (pv 0) (pa_cons (pv 1) pa_nil))))) pss_nil)
      (pss_cons (ps_if (pt_cmpR (uInK K) (pe_ix (ix_seqK K) (pv 0) (pv 1) (fun _ _ => rfl)) (pe_gc C_DIGITS (by rfl)) (by rfl)) (pss_one (ps_ret (pe_df D_number_at hr (by first | decide | exact Nat.le_refl _ | omega) (by rfl) (pa_cons (pv 0) (pa_cons (pv 1) pa_nil))))) pss_nil)
      (pss_cons (ps_if (pt_cmpR (uEqK K hr.units) (pe_ix (ix_seqK K) (pv 0) (pv 1) (fun _ _ => rfl)) (pe_gc C_QUOTE (by rfl)) (nomark _)) (pss_one (ps_ret (pe_df D_string_at hr (by first | decide | exact Nat.le_refl _ | omega) (by rfl) (pa_cons (pv 0) (pa_cons (pv 1) pa_nil))))) pss_nil)
      (pss_one (ps_ret (pe_df D_symbol_at hr (by first | decide | exact Nat.le_refl _ | omega) (by rfl) (pa_cons (pv 0) (pa_cons (pv 1) pa_nil)))))))),  fun ds d F0 H0 Q r rt => ?_⟩
  obtain ⟨t, a, rfl, hl, ha, rfl⟩ := r
  have hz : t.length ≤ 100000 := by omega
  obtain ⟨c, hc, ac⟩ := at_cs (t := t) (a := a) ha
  have rt : Rt _ _ (tkO (if t.cps.toList.getD a 0 ∈ LEc.cps.toList then wordF t a else if t.cps.toList.getD a 0 ∈ DGc.cps.toList then numberF t a else if t.cps.toList.getD a 0 = 34 then stringF t a else symbolF t a)) := rt
  rw [getD_at hc] at rt
  refine q_if (b := decide (c ∈ LEc.cps.toList)) (t_test (b_op (E.b (e_op (e_var rfl) (e_var rfl) (ix_s hz ac))) (E.b e_str) in_sg rfl)) (fun z => ?_) fun z => s_next (n_go ?_)
  · rw [if_pos (of_decide_eq_true z)] at rt
    exact s_ret (e_call (ds := [.str t, .int (a : Nat)]) (a_cons (e_var rfl) (a_cons (e_var rfl) a_nil)) ⟨t, a, rfl, hl, ha, rfl⟩) rt
  rw [if_neg (of_decide_eq_false z)] at rt
  refine q_if (b := decide (c ∈ DGc.cps.toList)) (t_test (b_op (E.b (e_op (e_var rfl) (e_var rfl) (ix_s hz ac))) (E.b e_str) in_sg rfl)) (fun z => ?_) fun z => s_next (n_go ?_)
  · rw [if_pos (of_decide_eq_true z)] at rt
    exact s_ret (e_call (ds := [.str t, .int (a : Nat)]) (a_cons (e_var rfl) (a_cons (e_var rfl) a_nil)) ⟨t, a, rfl, hl, ha, rfl⟩) rt
  rw [if_neg (of_decide_eq_false z)] at rt
  refine q_if (b := decide ((⟨#[c]⟩ : Str) = QUc)) (t_test (b_op (E.b (e_op (e_var rfl) (e_var rfl) (ix_s hz ac))) (E.b e_str) eq_s rfl)) (fun z => ?_) fun z => s_next (n_go ?_)
  · rw [qu_eq, sg_dec] at z
    rw [if_pos (of_decide_eq_true z)] at rt
    exact s_ret (e_call (ds := [.str t, .int (a : Nat)]) (a_cons (e_var rfl) (a_cons (e_var rfl) a_nil)) ⟨t, a, rfl, hl, ha, rfl⟩) rt
  · rw [qu_eq, sg_dec] at z
    rw [if_neg (of_decide_eq_false z)] at rt
    exact s_ret (e_call (ds := [.str t, .int (a : Nat)]) (a_cons (e_var rfl) (a_cons (e_var rfl) a_nil)) ⟨t, a, rfl, hl, ha, rfl⟩) rt
end
/-! ### the scan -/
abbrev Flt := Option (Str × Nat)
def fltD : Flt → PyData
  | none => .none
  | some q => .tuple [.str q.1, .int (q.2 : Nat)]
def lexG (t : Str) : Nat → Nat → List PyData → List PyData × Flt
  | 0, _, rows => (rows, none)
  | n + 1, k, rows => if t.length ≤ k then (rows, none) else if t.cps.toList.getD k 0 ∈ BLc.cps.toList then lexG t n (k + 1) rows else
    match tokenF t k with
    | .inl p => lexG t n p.2 (rows ++ [p.1])
    | .inr q => (rows, some (q.1, q.2.1))
def lexF (t : Str) : List PyData × Flt := lexG t (t.length + 1) 0 []
theorem lex_skip {t : Str} : ∀ (m n k : Nat) (rows : List PyData), runL BLc (t.cps.toList.drop k) = m → lexG t (n + m) k rows = lexG t n (k + m) rows
  | 0, n, k, rows, _ => rfl
  | m + 1, n, k, rows, h => by
    have hk : k < t.length := by
      rcases Nat.lt_or_ge k t.length with z | z
      · exact z
      · rw [List.drop_of_length_le (by rw [cps_len]; exact z)] at h; cases h
    obtain ⟨c, hc, _⟩ := at_cs hk
    rw [drop_get hc] at h
    have h : (if c ∈ BLc.cps.toList then runL BLc (t.cps.toList.drop (k + 1)) + 1 else 0) = m + 1 := h
    by_cases hin : c ∈ BLc.cps.toList
    · rw [if_pos hin] at h
      show lexG t ((n + m) + 1) k rows = _
      rw [lexG, if_neg (by omega), getD_at hc, if_pos hin, lex_skip m n (k + 1) rows (by omega), show k + 1 + m = k + (m + 1) by omega]
    · rw [if_neg hin] at h; cases h
theorem run_stop {cs : List Nat} {S : Str} {a c : Nat} (h : cs[runE cs S a]? = some c) : c ∉ S.cps.toList := by
  have key : ∀ (l : List Nat) (c : Nat), l[runL S l]? = some c → c ∉ S.cps.toList := by
    intro l
    induction l with
    | nil => intro c h; cases h
    | cons x r ih =>
      intro c h
      unfold runL at h
      by_cases hx : x ∈ S.cps.toList
      · rw [if_pos hx] at h
        exact ih c h
      · rw [if_neg hx] at h
        have h : some x = some c := h
        cases h; exact hx
  have h2 : (cs.drop a)[runL S (cs.drop a)]? = some c := by rw [List.getElem?_drop]; exact h
  exact key _ c h2
theorem le_ch : ∀ c ∈ LEc.cps.toList, c ∈ CHc.cps.toList := by decide
theorem word_gt {t : Str} {a c : Nat} {p : PyData × Nat} (hc : t.cps.toList[a]? = some c) (hi : c ∈ LEc.cps.toList) (h : wordF t a = .inl p) : a < p.2 := by
  have e := runE_in hc (le_ch c hi)
  have g := runE_ge t.cps.toList CHc (a + 1)
  unfold wordF at h
  rw [e] at h
  generalize runE t.cps.toList CHc (a + 1) = n at g h
  have h : (if 20 < n - a then (.inr ("long", a + 20, n) : Tk) else .inl (.tuple [.str "word", .str (cutS t (some (a : Nat)) (some (n : Nat))), .int (a : Nat)], n)) = .inl p := h
  split at h
  · cases h
  · cases h; exact g
theorem number_gt {t : Str} {a c : Nat} {p : PyData × Nat} (hc : t.cps.toList[a]? = some c) (hi : c ∈ DGc.cps.toList) (h : numberF t a = .inl p) : a < p.2 := by
  have e := runE_in hc hi
  have g := runE_ge t.cps.toList DGc (a + 1)
  unfold numberF at h
  cases hn : numL (digs t a) 0 a with
  | inl v => rw [hn] at h; cases h; show a < runE _ _ _; rw [e]; exact g
  | inr q => rw [hn] at h; cases h
theorem string_gt {t : Str} {a : Nat} {p : PyData × Nat} (h : stringF t a = .inl p) : a < p.2 := by
  have g := runE_ge t.cps.toList CHc (a + 1)
  unfold stringF at h
  generalize runE t.cps.toList CHc (a + 1) = e at g h
  have h : (if 20 < e - a - 1 then (.inr ("long", a + 1 + 20, e) : Tk) else if e = t.length then .inr ("end", e, e) else if t.cps.toList.getD e 0 ≠ 34 then .inr ("character", e, e) else .inl (.tuple [.str "string", .str (cutS t (some ((a + 1 : Nat) : Int)) (some (e : Nat))), .int (a : Nat)], e + 1)) = .inl p := h
  split at h
  · cases h
  · split at h
    · cases h
    · split at h
      · cases h
      · cases h; show a < e + 1; omega
theorem symbol_gt {t : Str} {a : Nat} {p : PyData × Nat} (h : symbolF t a = .inl p) : a < p.2 := by
  unfold symbolF at h
  split at h
  · next hx => cases h; have := sy_len _ hx; show a < a + _; omega
  · split at h
    · next hx => cases h; have := sy_len _ hx; show a < a + _; omega
    · split at h
      · cases h
      · split at h <;> cases h
theorem token_gt {t : Str} {a : Nat} {p : PyData × Nat} (ha : a < t.length) (h : tokenF t a = .inl p) : a < p.2 := by
  obtain ⟨c, hc, _⟩ := at_cs ha
  unfold tokenF at h
  rw [getD_at hc] at h
  split at h
  · next hi => exact word_gt hc hi h
  · split at h
    · next hi => exact number_gt hc hi h
    · split at h
      · exact string_gt h
      · exact symbol_gt h
section
variable {P : Program} {w : World} {K : PySem.W.Frag} {mg : Str → Option Value} {base : Heap} {f : Addr} {fd : FuncData} {Tb : List Addr} {k : Nat}
def scanF (t : Str) : List PyData × Flt := if 300 < t.length then ([], some ("long", 300)) else lexF t
def R_scan : List PyData → PyData → Prop := fun ds d => ∃ t : Str, ds = [.str t] ∧ t.length ≤ 90000 ∧ d = .tuple [.list (scanF t).1, fltD (scanF t).2]
theorem ok_scan (Fn : Fun K "scan" "scan" s_scan f fd) (hm : mg "scan" = some (.ref f)) (hb : Binds K fd ["text"] []) (Z : Zb mg)
    (C_LONGEST_TEXT : ∃ u, mg "LONGEST_TEXT" = some u ∧ RelV (.int 300) u) (C_BLANKS : ∃ u, mg "BLANKS" = some u ∧ RelV (.str BLc) u)
    (D_run_end : Df P w K mg base 1 "run_end" ["text", "at", "characters"] (spD K Tb R_run))
    (D_token_at : Df P w K mg base 3 "token_at" ["text", "at"] (spD K Tb (R_tko tokenF))) :
    Df P w K mg base 4 "scan" ["text"] (spD K Tb R_scan) := by
  refine df_D Fn sc_scan hm hb (fun ds d h => by obtain ⟨_, rfl, _⟩ := h; rfl) fun cdv A outer s H Ek hr => ⟨_, (pss_cons (ps_set (i := 1) sc_scan.nd rfl (by first | exact .inl rfl | exact .inr rfl) (pe_lst pa_nil))
      (pss_cons (ps_if (pt_cmpR op_gt (pe_callB (uLenK K) (by rfl) Z.len (by decide +kernel) (pa_cons (pv 0) pa_nil)) (pe_gc C_LONGEST_TEXT (by rfl)) (nomark _)) (pss_one (ps_ret (pe_tup (pa_cons (pv 1) (pa_cons (pe_tup (pa_cons pe_str (pa_cons (pe_gc C_LONGEST_TEXT (by rfl)) pa_nil))) pa_nil))))) pss_nil)
      (pss_cons (ps_set (i := 2) sc_scan.nd rfl (by first | exact .inl rfl | exact .inr rfl) (pe_df D_run_end hr (by first | decide | exact Nat.le_refl _ | omega) (by rfl) (pa_cons (pv 0) (pa_cons pe_int (pa_cons (pe_gc C_BLANKS (by rfl)) pa_nil)))))
      (pss_cons (ps_while PassesOwn.never (pt_cmpR uLt (pv 2) (pe_callB (uLenK K) (by rfl) Z.len (by decide +kernel) (pa_cons (pv 0) pa_nil)) (nomark _)) (pss_cons (ps_asg (pe_df D_token_at hr (by first | decide | exact Nat.le_refl _ | omega) (by rfl) (pa_cons (pv 0) (pa_cons (pv 2) pa_nil))) (pg_tupK (n := 3) K rfl (pgs_cons (pg_name (i := 3) sc_scan.nd rfl (by first | exact .inl rfl | exact .inr rfl)) (pgs_cons (pg_name (i := 4) sc_scan.nd rfl (by first | exact .inl rfl | exact .inr rfl)) (pgs_cons (pg_name (i := 5) sc_scan.nd rfl (by first | exact .inl rfl | exact .inr rfl)) pgs_nil)))))
      (pss_cons (ps_if (pt_cmpR uNotN (pv 5) pe_non (nomark _)) (pss_one (ps_ret (pe_tup (pa_cons (pv 1) (pa_cons (pv 5) pa_nil))))) pss_nil)
      (pss_cons (ps_expr (pe_bm PySem.F.plainAttrs_list PySem.F.slot_list_append PySem.F.type_list_append mt_append (pv 1) (pa_cons (pv 3) pa_nil)))
      (pss_one (ps_set (i := 2) sc_scan.nd rfl (by first | exact .inl rfl | exact .inr rfl) (pe_df D_run_end hr (by first | decide | exact Nat.le_refl _ | omega) (by rfl) (pa_cons (pv 0) (pa_cons (pv 4) (pa_cons (pe_gc C_BLANKS (by rfl)) pa_nil))))))))))
      (pss_one (ps_ret (pe_tup (pa_cons (pv 1) (pa_cons pe_non pa_nil))))))))),  fun ds d F0 H0 Q r rt => ?_⟩
  obtain ⟨t, rfl, hl, rfl⟩ := r
  have hz : t.length ≤ 100000 := by omega
  unfold scanF at rt
  refine q_asgL (ds := []) (el_lst a_nil (by decide)) ?_
  refine q_if (b := decide (((t.length : Nat) : Int) > 300)) (t_test (b_op (E.b (b_cb (ab_cons (E.b (e_var rfl)) ab_nil) (len_s hz) rfl)) (E.b e_int) gt_i rfl)) (fun z => ?_) fun z => s_next (n_go ?_)
  · have z := of_decide_eq_true z
    rw [if_pos (by omega)] at rt
    refine s_frz (i := 1) rfl ?_
    exact s_ret (e_tup (ds := [.list [], .tuple [.str "long", .int 300]]) (a_cons (e_var rfl) (a_cons (e_tup (ds := [.str "long", .int 300]) (a_cons e_str (a_cons e_int a_nil)) (Nat.le_of_ble_eq_true rfl)) a_nil)) (Nat.le_of_ble_eq_true rfl)) rt
  have z := of_decide_eq_false z
  rw [if_neg (by omega)] at rt
  have hl : t.length ≤ 9000 := by omega
  have r0 := runL_le BLc (t.cps.toList.drop 0)
  rw [List.length_drop, cps_len] at r0
  refine q_asg (d := .int ((runE t.cps.toList BLc 0 : Nat) : Int)) (e_call (ds := [.str t, .int ((0 : Nat) : Int), .str BLc]) (a_cons (e_var rfl) (a_cons e_int (a_cons e_str a_nil))) ⟨t, BLc, 0, rfl, hl, rfl⟩) ?_
  refine q_while (α := Nat × Nat × List PyData) (fun s => [.fz (.str t), .ow s.2.2, .fz (.int (s.2.1 : Nat)), .un, .un, .un]) (fun s => lexG t s.1 s.2.1 s.2.2 = lexF t ∧ t.length - s.2.1 < s.1 ∧ s.2.2.length ≤ s.2.1 ∧ ∀ c, t.cps.toList[s.2.1]? = some c → c ∉ BLc.cps.toList) (fun s => t.length - s.2.1) (t.length + 1 - runL BLc (t.cps.toList.drop 0), runE t.cps.toList BLc 0, []) ⟨?_, ?_, Nat.zero_le _, fun c hc => run_stop hc⟩ (Wk.refl _) fun s ha => ?_
  · have e := lex_skip (t := t) (runL BLc (t.cps.toList.drop 0)) (t.length + 1 - runL BLc (t.cps.toList.drop 0)) 0 [] rfl
    rw [Nat.sub_add_cancel (by omega)] at e
    show lexG t (t.length + 1 - runL BLc (t.cps.toList.drop 0)) (0 + runL BLc (t.cps.toList.drop 0)) [] = _
    rw [← e]; rfl
  · show t.length - (0 + runL BLc (t.cps.toList.drop 0)) < t.length + 1 - runL BLc (t.cps.toList.drop 0)
    omega
  · obtain ⟨n, a, rows⟩ := s
    obtain ⟨h1, h2, h3, h4⟩ := ha
    have h1 : lexG t n a rows = lexF t := h1
    have h2 : t.length - a < n := h2
    have h3 : rows.length ≤ a := h3
    have h4 : ∀ c, t.cps.toList[a]? = some c → c ∉ BLc.cps.toList := h4
    obtain ⟨m, rfl⟩ : ∃ m, n = m + 1 := ⟨n - 1, by omega⟩
    rw [lexG] at h1
    refine ⟨decide (((a : Nat) : Int) < ((t.length : Nat) : Int)), t_test (b_op (E.b (e_var rfl)) (E.b (b_cb (ab_cons (E.b (e_var rfl)) ab_nil) (len_s hz) rfl)) lt_i rfl), fun z2 => ?_, fun z2 => ?_⟩
    · have z2 := of_decide_eq_true z2
      have hlt : a < t.length := by omega
      obtain ⟨c, hc, _⟩ := at_cs hlt
      rw [if_neg (by omega), getD_at hc, if_neg (h4 c hc)] at h1
      have r : R_tko tokenF [.str t, .int (a : Nat)] (tkO (tokenF t a)) := ⟨t, a, rfl, hl, hlt, rfl⟩
      cases hT : tokenF t a with
      | inr q =>
        obtain ⟨fl, p, e⟩ := q
        rw [hT] at h1 r
        have h1 : (rows, some (fl, p)) = lexF t := h1
        refine q_asgT (d := .tuple [.none, .int (e : Nat), .tuple [.str fl, .int (p : Nat)]]) (e_call (ds := [.str t, .int (a : Nat)]) (a_cons (e_var rfl) (a_cons (e_var rfl) a_nil)) r) (g_tup (gs_cons g_name (gs_cons g_name (gs_cons g_name gs_nil))) rfl) ?_
        refine q_if (b := !isND (.tuple [.str fl, .int (p : Nat)])) (t_test (b_op (E.b (e_var rfl)) (E.b e_non) nis_n rfl)) (fun _ => ?_) fun z => by cases z
        rw [← h1] at rt
        refine s_frz (i := 1) rfl ?_
        exact s_ret (e_tup (ds := [.list rows, .tuple [.str fl, .int (p : Nat)]]) (a_cons (e_var rfl) (a_cons (e_var rfl) a_nil)) (Nat.le_of_ble_eq_true rfl)) rt
      | inl q =>
        have gt := token_gt hlt hT
        obtain ⟨x, e⟩ := q
        rw [hT] at h1 r
        have h1 : lexG t m e (rows ++ [x]) = lexF t := h1
        have gt : a < e := gt
        have r1 := runL_le BLc (t.cps.toList.drop e)
        rw [List.length_drop, cps_len] at r1
        refine q_asgT (d := .tuple [x, .int (e : Nat), .none]) (e_call (ds := [.str t, .int (a : Nat)]) (a_cons (e_var rfl) (a_cons (e_var rfl) a_nil)) r) (g_tup (gs_cons g_name (gs_cons g_name (gs_cons g_name gs_nil))) rfl) ?_
        refine q_if (b := !isND .none) (t_test (b_op (E.b (e_var rfl)) (E.b e_non) nis_n rfl)) (fun z => by cases z) fun _ => s_next (n_go ?_)
        refine q_app (d := x) rfl (e_var rfl) (by show rows.length < 100000; omega) ?_
        have e4 := lex_skip (t := t) (runL BLc (t.cps.toList.drop e)) (m - runL BLc (t.cps.toList.drop e)) e (rows ++ [x]) rfl
        rw [Nat.sub_add_cancel (by omega)] at e4
        refine s_asg (d := .int ((runE t.cps.toList BLc e : Nat) : Int)) (e_call (ds := [.str t, .int (e : Nat), .str BLc]) (a_cons (e_var rfl) (a_cons (e_var rfl) (a_cons e_str a_nil))) ⟨t, BLc, e, rfl, hl, rfl⟩) (n_end (m - runL BLc (t.cps.toList.drop e), runE t.cps.toList BLc e, rows ++ [x]) ⟨⟨?_, ?_, ?_, fun c hc => run_stop hc⟩, ?_⟩ ?_)
        · rw [← h1, e4]; rfl
        · show t.length - (e + runL BLc (t.cps.toList.drop e)) < m - runL BLc (t.cps.toList.drop e)
          omega
        · rw [List.length_append, List.length_singleton]
          show rows.length + 1 ≤ e + runL BLc (t.cps.toList.drop e)
          omega
        · show t.length - (e + runL BLc (t.cps.toList.drop e)) < t.length - a
          omega
        · exact .keep rfl (.keep rfl (.keep rfl (.drop (.drop (.drop .nil)))))
    · have z2 := of_decide_eq_false z2
      rw [if_pos (by omega)] at h1
      rw [← h1] at rt
      refine s_frz (i := 1) rfl ?_
      exact s_ret (e_tup (ds := [.list rows, .none]) (a_cons (e_var rfl) (a_cons e_non a_nil)) (Nat.le_of_ble_eq_true rfl)) rt
end
/-! ### the law's own reading: its math -/
def F4 : List Str := ["!=", "==", "<=", ">="]
theorem str_ofL (t : Str) (lo hi : Nat) : cutS t (some (lo : Nat)) (some (hi : Nat)) = ⟨((t.cps.toList.drop (min lo t.length)).take (min hi t.length - min lo t.length)).toArray⟩ := by
  show (⟨(List.take (HT.sIx t.length t.length (some (hi : Nat)) - HT.sIx t.length 0 (some (lo : Nat))) (List.drop (HT.sIx t.length 0 (some (lo : Nat))) t.cps.toList)).toArray⟩ : Str) = _
  rw [show HT.sIx t.length t.length (some ((hi : Nat) : Int)) = min hi t.length from HT.sIx_nat _ _ _, show HT.sIx t.length 0 (some ((lo : Nat) : Int)) = min lo t.length from HT.sIx_nat _ _ _]
/-! ### what a token is -/
def TkR (x : PyData) : Prop := ∃ (k : Str) (v : PyData) (n : Nat), x = .tuple [.str k, v, .int (n : Nat)] ∧ ((k = "number" ∧ ∃ i, v = .int i) ∨ (k = "string" ∧ ∃ s, v = .str s) ∨ (k = "symbol" ∧ ∃ s, v = .str s ∧ s ∈ SYc) ∨ (k = "word" ∧ ∃ s, v = .str s ∧ s.cps.toList.getD 0 0 ∈ LEc.cps.toList))
theorem tkr_sy {s : Str} {n : Nat} (h : s ∈ SYc) : TkR (.tuple [.str "symbol", .str s, .int (n : Nat)]) := ⟨"symbol", .str s, n, rfl, .inr (.inr (.inl ⟨rfl, s, rfl, h⟩))⟩
theorem word_first {t : Str} {a e c : Nat} (hc : t.cps.toList[a]? = some c) (he : a < e) : (cutS t (some (a : Nat)) (some (e : Nat))).cps.toList.getD 0 0 = c := by
  have hl := (List.getElem?_eq_some_iff.mp hc).1
  rw [cps_len] at hl
  rw [str_ofL, Nat.min_eq_left (by omega : a ≤ t.length)]
  obtain ⟨m, hm⟩ : ∃ m, min e t.length - a = m + 1 := ⟨min e t.length - a - 1, by omega⟩
  rw [hm, drop_get hc, List.take_succ_cons]
  rfl
theorem token_row {t : Str} {a : Nat} {p : PyData × Nat} (ha : a < t.length) (h : tokenF t a = .inl p) : TkR p.1 := by
  obtain ⟨c, hc, _⟩ := at_cs ha
  unfold tokenF at h
  rw [getD_at hc] at h
  split at h
  · next hi =>
    have e := runE_in hc (le_ch c hi)
    have g := runE_ge t.cps.toList CHc (a + 1)
    unfold wordF at h
    rw [e] at h
    generalize runE t.cps.toList CHc (a + 1) = e at g h
    have h : (if 20 < e - a then (.inr ("long", a + 20, e) : Tk) else .inl (.tuple [.str "word", .str (cutS t (some (a : Nat)) (some (e : Nat))), .int (a : Nat)], e)) = .inl p := h
    split at h
    · cases h
    · cases h
      exact ⟨"word", _, a, rfl, .inr (.inr (.inr ⟨rfl, _, rfl, by rw [word_first hc (by omega)]; exact hi⟩))⟩
  · split at h
    · unfold numberF at h
      cases hn : numL (digs t a) 0 a with
      | inl v => rw [hn] at h; cases h; exact ⟨"number", .int v, a, rfl, .inl ⟨rfl, v, rfl⟩⟩
      | inr q => rw [hn] at h; cases h
    · split at h
      · unfold stringF at h
        generalize runE t.cps.toList CHc (a + 1) = e at h
        have h : (if 20 < e - a - 1 then (.inr ("long", a + 1 + 20, e) : Tk) else if e = t.length then .inr ("end", e, e) else if t.cps.toList.getD e 0 ≠ 34 then .inr ("character", e, e) else .inl (.tuple [.str "string", .str (cutS t (some ((a + 1 : Nat) : Int)) (some (e : Nat))), .int (a : Nat)], e + 1)) = .inl p := h
        split at h
        · cases h
        · split at h
          · cases h
          · split at h
            · cases h
            · cases h; exact ⟨"string", _, a, rfl, .inr (.inl ⟨rfl, _, rfl⟩)⟩
      · unfold symbolF at h
        split at h
        · next hx => cases h; exact tkr_sy hx
        · split at h
          · next hx => cases h; exact tkr_sy hx
          · split at h
            · cases h
            · split at h <;> cases h
theorem lex_rows {t : Str} : ∀ (n k : Nat) (rows : List PyData), (∀ x ∈ rows, TkR x) → ∀ x ∈ (lexG t n k rows).1, TkR x
  | 0, k, rows, h => h
  | n + 1, k, rows, h => by
    rw [lexG]
    split
    · exact h
    · next hk =>
      split
      · exact lex_rows n (k + 1) rows h
      · cases hT : tokenF t k with
        | inl p =>
          show ∀ x ∈ (lexG t n p.2 (rows ++ [p.1])).1, TkR x
          refine lex_rows n p.2 _ fun x hx => ?_
          rcases List.mem_append.mp hx with hx | hx
          · exact h x hx
          · rw [List.mem_singleton.mp hx]; exact token_row (Nat.lt_of_not_le hk) hT
        | inr q => exact h
theorem lex_len {t : Str} : ∀ (n k : Nat) (rows : List PyData), (lexG t n k rows).1.length ≤ rows.length + n
  | 0, k, rows => Nat.le_refl _
  | n + 1, k, rows => by
    rw [lexG]
    split
    · exact Nat.le_add_right _ _
    · split
      · have := lex_len (t := t) n (k + 1) rows; omega
      · cases hT : tokenF t k with
        | inl p =>
          have := lex_len (t := t) n p.2 (rows ++ [p.1])
          rw [List.length_append, List.length_singleton] at this
          show (lexG t n p.2 (rows ++ [p.1])).1.length ≤ _
          omega
        | inr q => exact Nat.le_add_right _ _
theorem scan_rows (t : Str) : ∀ x ∈ (scanF t).1, TkR x := by
  unfold scanF
  split
  · intro x hx; cases hx
  · exact lex_rows _ _ _ fun x hx => by cases hx
/-! ### Walk: the choices, one token, all tokens -/
abbrev txE (p : Str × Str) : Str × PyData := (p.1, .str p.2)
theorem putD_new {acc : List (Str × PyData)} {x : Str} {d : PyData} (h : x ∉ acc.map (·.1)) : putD acc x d = acc ++ [(x, d)] := by
  unfold putD
  rw [if_neg]
  rw [List.any_eq_true]
  rintro ⟨p, hp, e⟩
  exact h (List.mem_map.mpr ⟨p, hp, of_decide_eq_true e⟩)
theorem putAll_nd : ∀ (q acc : List (Str × PyData)), ((acc ++ q).map (·.1)).Nodup → putAll acc q = acc ++ q
  | [], acc, _ => (List.append_nil _).symm
  | p :: q, acc, h => by
    have h1 : p.1 ∉ acc.map (·.1) := fun hm => by
      rw [List.map_append, List.nodup_append] at h
      exact h.2.2 _ hm _ (by rw [List.map_cons]; exact List.mem_cons_self) rfl
    show putAll (putD acc p.1 p.2) q = _
    rw [putD_new h1, putAll_nd q _ (by rw [List.append_assoc]; exact h), List.append_assoc]
    rfl
theorem getK_tx (x : Str) : ∀ L : List (Str × Str), getK (L.map txE) x = (L.lookup x).map .str
  | [] => rfl
  | p :: L => by
    have ih := getK_tx x L
    unfold getK at ih ⊢
    rw [List.map_cons, List.find?_cons, List.lookup_cons]
    by_cases h : p.1 = x
    · subst h
      rw [show decide ((txE p).1 = p.1) = true from decide_eq_true rfl, beq_self_eq_true]; rfl
    · rw [show decide ((txE p).1 = x) = false from decide_eq_false h, show (x == p.1) = false from beq_eq_false_iff_ne.mpr (Ne.symm h)]
      exact ih
def NXs : List (Str × List (Str × Str)) := [("operand", [("NUMBER", "operand_end"), ("-", "minus"), ("(", "operand"), ("NAME", "metric")]), ("minus", [("NUMBER", "operand_end")]), ("metric", [("{", "first_label")]), ("over_word", [("{", "first_label"), ("(", "range")]), ("aggregate_word", [("{", "first_label"), ("(", "operand"), ("by", "by")]), ("operand_end", []), ("first_label", [("LABEL", "test"), ("}", "selector_end")]), ("label", [("LABEL", "test")]), ("test", [("=", "value"), ("!=", "value"), ("in", "in"), ("not", "not")]), ("not", [("in", "in")]), ("in", [("(", "values")]), ("value", [("STRING", "matcher_end")]), ("values", [("STRING", "value_end")]), ("value_end", [(",", "values"), (")", "matcher_end")]), ("matcher_end", [(",", "label"), ("}", "selector_end")]), ("range", [("NAME", "range_metric")]), ("range_metric", [("{", "first_label"), ("[", "span")]), ("range_selector", [("[", "span")]), ("span", [("NUMBER", "span_end")]), ("span_end", [("]", "range_end")]), ("range_end", [(")", "operand_end")]), ("by", [("(", "first_name")]), ("first_name", [("NAME", "name_end"), (")", "inner")]), ("name", [("NAME", "name_end")]), ("name_end", [(",", "name"), (")", "inner")]), ("inner", [("(", "operand")])]
def STs : List Str := NXs.map (·.1)
def SGs : List Str := ["or", "and", "unless", "<", "<=", ">", ">=", "==", "!=", "+", "-", "*"]
def OVs : List Str := ["sum_over", "min_over", "max_over", "count_over", "last_over", "increase"]
def AGs : List Str := ["sum", "min", "max", "count"]
def nxF (st : Str) : List (Str × Str) := (NXs.lookup st).getD []
def sgE (i : Nat) : List (Str × Str) := (SGs.take i).map fun s => (s, ("operand" : Str))
def chF (st : Str) (dp : Int) : List (Str × Str) := if st ∈ ENDS then nxF st ++ sgE 12 ++ [((if dp > 0 then (")" : Str) else ("END" : Str)), ("operand_end" : Str))] else nxF st
theorem nx_at : ∀ st ∈ STs, (st, nxF st) ∈ NXs := by decide +kernel
theorem nx_nd : ∀ st ∈ STs, ((nxF st).map (·.1)).Nodup := by decide +kernel
theorem sg_new : ∀ st ∈ ENDS, ∀ i < 12, SGs.getD i "" ∉ (nxF st ++ sgE i).map (·.1) := by decide +kernel
theorem en_new : ∀ st ∈ ENDS, ∀ x ∈ ([")", "END"] : List Str), x ∉ (nxF st ++ sgE 12).map (·.1) := by decide +kernel
theorem sgE_succ {i : Nat} {x : Str} (h : SGs[i]? = some x) : sgE (i + 1) = sgE i ++ [(x, ("operand" : Str))] := by
  unfold sgE
  rw [List.take_add_one, h, List.map_append]
  rfl
theorem nx_len : ∀ st ∈ STs, (nxF st).length ≤ 4 := by decide +kernel
theorem sgE_len (i : Nat) : (sgE i).length ≤ 12 := by
  unfold sgE
  rw [List.length_map, List.length_take]
  exact Nat.min_le_right _ _
/-- what a token says: its kind, its text -/
def tkK : PyData → Str
  | .tuple (.str k :: _) => k
  | _ => ""
def tkV : PyData → Str
  | .tuple (_ :: .str v :: _) => v
  | _ => ""
def cfF (k v : Str) (l : List (Str × Str)) : Str := if k = "number" then "NUMBER" else if k = "string" then "STRING" else if k = "symbol" ∨ (l.lookup v).isSome = true then v else if (l.lookup ("LABEL" : Str)).isSome = true ∧ v ≠ "metric" then "LABEL" else "NAME"
def rfF (to v : Str) (ir : Bool) : Str := if to = "metric" ∧ v ∈ OVs then "over_word" else if to = "metric" ∧ v ∈ AGs then "aggregate_word" else if to = "selector_end" then (if ir then "range_selector" else "operand_end") else to
abbrev WkS := Str × Int × Bool
def wkD (s : WkS) : List (Str × PyData) := wkF s.1 s.2.1 s.2.2
def tkStep (s : WkS) (x : PyData) : Option WkS := match (chF s.1 s.2.1).lookup (cfF (tkK x) (tkV x) (chF s.1 s.2.1)) with
  | none => none
  | some to => some (rfF to (tkV x) (nbI s.1 to s.2.2), nbD s.1 (cfF (tkK x) (tkV x) (chF s.1 s.2.1)) to s.2.1, nbI s.1 to s.2.2)
def wkR : WkS → List PyData → WkS × Option PyData
  | s, [] => (s, none)
  | s, x :: r => match tkStep s x with
    | none => (s, some x)
    | some s' => wkR s' r
theorem to_st : ∀ st ∈ STs, ∀ p ∈ nxF st, p.2 = "selector_end" ∨ p.2 ∈ STs := by decide +kernel
theorem rf_st {to v : Str} {ir : Bool} (h : to = "selector_end" ∨ to ∈ STs) : rfF to v ir ∈ STs := by
  unfold rfF
  split
  · decide +kernel
  · split
    · decide +kernel
    · split
      · cases ir <;> decide +kernel
      · next hn => exact h.resolve_left hn
theorem lookup_mem {x y : Str} : ∀ {l : List (Str × Str)}, l.lookup x = some y → (x, y) ∈ l
  | [], h => by cases h
  | p :: l, h => by
    rw [List.lookup_cons] at h
    cases q : x == p.1 with
    | true =>
      rw [q] at h
      have e : x = p.1 := eq_of_beq q
      cases h
      rw [e]; exact List.mem_cons_self
    | false => rw [q] at h; exact List.mem_cons_of_mem _ (lookup_mem h)
theorem ch_to {st x y : Str} {dp : Int} (hs : st ∈ STs) (h : (chF st dp).lookup x = some y) : y = "selector_end" ∨ y ∈ STs := by
  have m := lookup_mem h
  unfold chF at m
  split at m
  · rcases List.mem_append.mp m with m | m
    · rcases List.mem_append.mp m with m | m
      · exact to_st st hs _ m
      · unfold sgE at m
        obtain ⟨s, _, e⟩ := List.mem_map.mp m
        cases e
        exact .inr (by decide +kernel)
    · rw [List.mem_singleton] at m
      cases m
      exact .inr (by decide +kernel)
  · exact to_st st hs _ m
theorem step_st {s s' : WkS} {x : PyData} (hs : s.1 ∈ STs) (h : tkStep s x = some s') : s'.1 ∈ STs := by
  unfold tkStep at h
  cases e : (chF s.1 s.2.1).lookup (cfF (tkK x) (tkV x) (chF s.1 s.2.1)) with
  | none => rw [e] at h; cases h
  | some to => rw [e] at h; cases h; exact rf_st (ch_to hs e)
theorem num_to : ∀ st ∈ STs, ∀ y, (nxF st).lookup ("NUMBER" : Str) = some y → y ≠ "metric" := by
  have a : ∀ st ∈ STs, (nxF st).lookup ("NUMBER" : Str) ≠ some "metric" := by decide +kernel
  intro st hs y h e
  rw [e] at h; exact a st hs h
theorem num_ends : ∀ st ∈ ENDS, ∀ b ∈ [true, false], (nxF st ++ sgE 12 ++ [((if b = true then (")" : Str) else ("END" : Str)), ("operand_end" : Str))]).lookup ("NUMBER" : Str) = none := by decide +kernel
theorem ch_num {st y : Str} {dp : Int} (hs : st ∈ STs) (h : (chF st dp).lookup ("NUMBER" : Str) = some y) : y ≠ "metric" := by
  unfold chF at h
  split at h
  · next he =>
    by_cases hd : dp > 0
    · have := num_ends st he true (by decide)
      rw [if_pos rfl] at this
      rw [if_pos hd, this] at h; cases h
    · have := num_ends st he false (by decide)
      rw [if_neg (by decide)] at this
      rw [if_neg hd, this] at h; cases h
  · exact num_to st hs y h
section
variable {P : Program} {w : World} {K : PySem.W.Frag} {mg : Str → Option Value} {base : Heap} {f C : Addr} {fd : FuncData} {Tb : List Addr} {k : Nat}
def R_rf : List (Str × PyData) → List PyData → PyData → Prop := fun fs ds d => ∃ (st : Str) (dp : Int) (ir : Bool) (x : PyData) (to : Str), fs = wkF st dp ir ∧ ds = [x, .str to] ∧ TkR x ∧ (to = "metric" → tkK x ≠ "number") ∧ d = .str (rfF to (tkV x) ir)
theorem tk_text {x : PyData} (h : TkR x) (hn : tkK x ≠ "number") : ∃ (k v : Str) (n : Nat), x = .tuple [.str k, .str v, .int (n : Nat)] := by
  obtain ⟨k, v, n, rfl, h⟩ := h
  rcases h with ⟨rfl, _⟩ | ⟨rfl, s, rfl⟩ | ⟨rfl, s, rfl, _⟩ | ⟨rfl, s, rfl, _⟩
  · exact absurd rfl hn
  · exact ⟨_, s, n, rfl⟩
  · exact ⟨_, s, n, rfl⟩
  · exact ⟨_, s, n, rfl⟩
theorem ok_rf {pO pA : Addr} (Fn : Fun K "refined" "Walk.refined" s_Walk_refined f fd) (hM : Meth K C "refined" f) (hb : Binds K fd ["self", "token", "state"] []) (Z : Zb mg) (CL_Walk : Cls K C) (N3 : NoAttr K C "in_range")
    (TO : TcOk K mg "OVER_WORDS" pO OVs) (TA : TcOk K mg "AGGREGATE_WORDS" pA AGs) :
    MtOk P w K mg base 1 C "refined" ["self", "token", "state"] (spMR K Tb C R_rf) := by
  have C_OVER_WORDS := TO.c
  have C_AGGREGATE_WORDS := TA.c
  refine mt_R Fn sc_Walk_refined hM hb (fun fs ds d h => by obtain ⟨_, _, _, _, _, _, rfl, _⟩ := h; rfl) fun cdv A outer s H Ek hr => ⟨_, (pss_cons (ps_if (PW.pt (pw_and (pt_cmpR (uEqK K hr.units) (pv 2) pe_str (nomark _)) (pw_and1 (pt_cmpR (uInK K) (pe_ix (ix_seqK K) (pv 1) pe_int (fun _ _ => rfl)) (pe_gc C_OVER_WORDS (by rfl)) (by rfl))))) (pss_one (ps_ret pe_str)) pss_nil)
      (pss_cons (ps_if (PW.pt (pw_and (pt_cmpR (uEqK K hr.units) (pv 2) pe_str (nomark _)) (pw_and1 (pt_cmpR (uInK K) (pe_ix (ix_seqK K) (pv 1) pe_int (fun _ _ => rfl)) (pe_gc C_AGGREGATE_WORDS (by rfl)) (by rfl))))) (pss_one (ps_ret pe_str)) pss_nil)
      (pss_cons (ps_if (pt_cmpR (uEqK K hr.units) (pv 2) pe_str (nomark _)) (pss_one (ps_ret (pe_ifExp (pt_truthK K (pe_fldK K (pv 0)) (by intro _; rfl)) pe_str pe_str))) pss_nil)
      (pss_one (ps_ret (pv 2)))))),  fun fs ds d F0 H0 a Q r ob rt => ?_⟩
  obtain ⟨st, dp, ir, x, to, rfl, rfl, tk, hn, rfl⟩ := r
  show S _ _ _ [.raw (.ref a), .fz x, .fz (.str to)]
  by_cases hm : to = "metric"
  · obtain ⟨k, v, n, rfl⟩ := tk_text tk (hn hm)
    have rt : Rt ⟨K, Tb, F0, H0, F0⟩ Q (.str (rfF to v ir)) := rt
    unfold rfF at rt
    refine q_if (b := decide (to = "metric") && decide (v ∈ OVs)) (t_and (t_test (b_op (E.b (e_var rfl)) (E.b e_str) eq_s rfl)) fun _ => t_test (by rw [← inD_str]; exact b_op (E.b (e_op (x := .tuple [.str k, .str v, .int (n : Nat)]) (e_var rfl) e_int (ix_t rfl))) (E.b (e_tc TO)) (in_t rfl (scal_strs OVs)) rfl)) (fun z => ?_) fun z => s_next (n_go ?_)
    · have z := Bool.and_eq_true_iff.mp z
      rw [if_pos ⟨hm, of_decide_eq_true z.2⟩] at rt
      exact s_ret e_str rt
    rw [if_neg (fun h => by rw [decide_eq_true h.1, decide_eq_true h.2] at z; cases z)] at rt
    refine q_if (b := decide (to = "metric") && decide (v ∈ AGs)) (t_and (t_test (b_op (E.b (e_var rfl)) (E.b e_str) eq_s rfl)) fun _ => t_test (by rw [← inD_str]; exact b_op (E.b (e_op (x := .tuple [.str k, .str v, .int (n : Nat)]) (e_var rfl) e_int (ix_t rfl))) (E.b (e_tc TA)) (in_t rfl (scal_strs AGs)) rfl)) (fun z => ?_) fun z => s_next (n_go ?_)
    · have z := Bool.and_eq_true_iff.mp z
      rw [if_pos ⟨hm, of_decide_eq_true z.2⟩] at rt
      exact s_ret e_str rt
    rw [if_neg (fun h => by rw [decide_eq_true h.1, decide_eq_true h.2] at z; cases z), if_neg (by rw [hm]; decide)] at rt
    refine q_if (b := decide (to = "selector_end")) (t_test (b_op (E.b (e_var rfl)) (E.b e_str) eq_s rfl)) (fun z => ?_) fun z => s_next (n_go (s_ret (e_var rfl) rt))
    exact absurd (of_decide_eq_true z) (by rw [hm]; decide)
  · have nm : decide (to = "metric") = false := decide_eq_false hm
    unfold rfF at rt
    rw [if_neg (fun h => hm h.1), if_neg (fun h => hm h.1)] at rt
    refine q_if (b := decide (to = "metric") && true) (t_and (t_test (b_op (E.b (e_var rfl)) (E.b e_str) eq_s rfl)) fun z => absurd z (by rw [nm]; decide)) (fun z => absurd z (by rw [nm]; decide)) fun z => s_next (n_go ?_)
    refine q_if (b := decide (to = "metric") && true) (t_and (t_test (b_op (E.b (e_var rfl)) (E.b e_str) eq_s rfl)) fun z => absurd z (by rw [nm]; decide)) (fun z => absurd z (by rw [nm]; decide)) fun z => s_next (n_go ?_)
    refine q_if (b := decide (to = "selector_end")) (t_test (b_op (E.b (e_var rfl)) (E.b e_str) eq_s rfl)) (fun z => ?_) fun z => s_next (n_go ?_)
    · rw [if_pos (of_decide_eq_true z)] at rt
      refine s_ret (e_if (b := ir) (t_tru (E.b (e_fldR rfl ob CL_Walk N3 (lk_ir st dp ir))) rfl) (fun h => ?_) fun h => ?_) rt
      · rw [if_pos h]; exact e_str
      · rw [if_neg (by rw [h]; decide)]; exact e_str
    · rw [if_neg (of_decide_eq_false z)] at rt
      exact s_ret (e_var rfl) rt
def R_cf : List Ag → PyData → Prop := fun as d => ∃ (x : PyData) (l : List (Str × Str)), as = [.d x, .k (l.map txE)] ∧ TkR x ∧ d = .str (cfF (tkK x) (tkV x) l)
theorem has_tx (l : List (Str × Str)) (x : Str) : (getK (l.map txE) x).isSome = (l.lookup x).isSome := by
  rw [getK_tx]
  cases l.lookup x <;> rfl
theorem ok_cf (Fn : Fun K "choice_for" "choice_for" s_choice_for f fd) (hm : mg "choice_for" = some (.ref f)) (hb : Binds K fd ["token", "choices"] []) (Z : Zb mg) :
    Df P w K mg base 1 "choice_for" ["token", "choices"] (spK K Tb R_cf) := by
  refine df_K Fn sc_choice_for hm hb (fun as d h => by obtain ⟨_, _, rfl, _⟩ := h; rfl) fun cdv A outer s H Ek hr => ⟨_, (pss_cons (ps_asg (pv 0) (pg_tupK (n := 3) K rfl (pgs_cons (pg_name (i := 2) sc_choice_for.nd rfl (by first | exact .inl rfl | exact .inr rfl)) (pgs_cons (pg_name (i := 3) sc_choice_for.nd rfl (by first | exact .inl rfl | exact .inr rfl)) (pgs_cons (pg_name (i := 4) sc_choice_for.nd rfl (by first | exact .inl rfl | exact .inr rfl)) pgs_nil)))))
      (pss_cons (ps_if (pt_cmpR (uEqK K hr.units) (pv 2) pe_str (nomark _)) (pss_one (ps_ret pe_str)) pss_nil)
      (pss_cons (ps_if (pt_cmpR (uEqK K hr.units) (pv 2) pe_str (nomark _)) (pss_one (ps_ret pe_str)) pss_nil)
      (pss_cons (ps_if (PW.pt (pw_or (pt_cmpR (uEqK K hr.units) (pv 2) pe_str (nomark _)) (pw_or1 (pt_cmp (pc_din (hu_of hr) (pv 3) (pv 1)))))) (pss_one (ps_ret (pv 3))) pss_nil)
      (pss_cons (ps_if (PW.pt (pw_and (pt_cmp (pc_din (hu_of hr) pe_str (pv 1))) (pw_and1 (pt_cmpR (uNeK K hr.units) (pv 3) pe_str (nomark _))))) (pss_one (ps_ret pe_str)) pss_nil)
      (pss_one (ps_ret pe_str))))))),  fun as d F0 H0 Q r rt => ?_⟩
  obtain ⟨x, l, rfl, tk, rfl⟩ := r
  obtain ⟨k, v, n, rfl, hv⟩ := tk
  show S _ _ _ [.fz (.tuple [.str k, v, .int (n : Nat)]), .fk (l.map txE), .un, .un, .un]
  refine q_asgT (d := .tuple [.str k, v, .int (n : Nat)]) (e_var rfl) (g_tup (gs_cons g_name (gs_cons g_name (gs_cons g_name gs_nil))) rfl) ?_
  have rt : Rt ⟨K, Tb, F0, H0, F0⟩ Q (.str (cfF k (tkV (.tuple [.str k, v, .int (n : Nat)])) l)) := rt
  unfold cfF at rt
  refine q_if (b := decide (k = "number")) (t_test (b_op (E.b (e_var rfl)) (E.b e_str) eq_s rfl)) (fun z => ?_) fun z => s_next (n_go ?_)
  · rw [if_pos (of_decide_eq_true z)] at rt
    exact s_ret e_str rt
  have hk := of_decide_eq_false z
  rw [if_neg hk] at rt
  obtain ⟨t, rfl⟩ : ∃ t : Str, v = .str t := by
    rcases hv with ⟨h, _⟩ | ⟨_, s, rfl⟩ | ⟨_, s, rfl, _⟩ | ⟨_, s, rfl, _⟩
    · exact absurd h hk
    · exact ⟨s, rfl⟩
    · exact ⟨s, rfl⟩
    · exact ⟨s, rfl⟩
  have rt : Rt ⟨K, Tb, F0, H0, F0⟩ Q (.str (if k = "string" then "STRING" else if k = "symbol" ∨ (l.lookup t).isSome = true then t else if (l.lookup ("LABEL" : Str)).isSome = true ∧ t ≠ "metric" then "LABEL" else "NAME")) := rt
  refine q_if (b := decide (k = "string")) (t_test (b_op (E.b (e_var rfl)) (E.b e_str) eq_s rfl)) (fun z => ?_) fun z => s_next (n_go ?_)
  · rw [if_pos (of_decide_eq_true z)] at rt
    exact s_ret e_str rt
  rw [if_neg (of_decide_eq_false z)] at rt
  refine q_if (b := decide (k = "symbol") || (getK (l.map txE) t).isSome) (t_or (t_test (b_op (E.b (e_var rfl)) (E.b e_str) eq_s rfl)) fun _ => t_din rfl (e_var rfl)) (fun z => ?_) fun z => s_next (n_go ?_)
  · rw [has_tx] at z
    rw [if_pos ((Bool.or_eq_true_iff.mp z).imp of_decide_eq_true id)] at rt
    exact s_ret (e_var rfl) rt
  rw [has_tx] at z
  rw [if_neg (fun h => by
    have := Bool.or_eq_false_iff.mp z
    rcases h with h | h
    · rw [decide_eq_true h] at this; cases this.1
    · rw [h] at this; cases this.2)] at rt
  refine q_if (b := (getK (l.map txE) "LABEL").isSome && !decide (t = "metric")) (t_and (t_din rfl e_str) fun _ => t_test (b_op (E.b (e_var rfl)) (E.b e_str) ne_s rfl)) (fun z => ?_) fun z => s_next (n_go ?_)
  · rw [has_tx] at z
    have z := Bool.and_eq_true_iff.mp z
    rw [if_pos ⟨z.1, fun h => by have := z.2; rw [decide_eq_true h] at this; cases this⟩] at rt
    exact s_ret e_str rt
  · rw [has_tx] at z
    rw [if_neg (fun h => by rw [h.1, decide_eq_false h.2] at z; cases z)] at rt
    exact s_ret e_str rt
def R_ch : List (Str × PyData) → List PyData → List (Str × PyData) → Prop := fun fs ds kvs => ∃ (st : Str) (dp : Int) (ir : Bool), fs = wkF st dp ir ∧ st ∈ STs ∧ ds = [] ∧ kvs = (chF st dp).map txE
theorem tx_keys (l : List (Str × Str)) : (l.map txE).map (·.1) = l.map (·.1) := by rw [List.map_map]; rfl
theorem ok_ch {pE pN pS : Addr} (Fn : Fun K "choices" "Walk.choices" s_Walk_choices f fd) (hM : Meth K C "choices" f) (hb : Binds K fd ["self"] []) (Z : Zb mg) (CL_Walk : Cls K C) (N1 : NoAttr K C "state") (N2 : NoAttr K C "depth")
    (TE : TcOk K mg "OPERAND_ENDS" pE ENDS) (C_NEXT_STATES : ∃ u, mg "NEXT_STATES" = some u ∧ RelV (.ref pN) u) (TN : KdP K w pN NXs) (C_STRENGTHS : ∃ u, mg "STRENGTHS" = some u ∧ RelV (.ref pS) u) (TS : KdL K pS SGs) :
    MtOk P w K mg base 1 C "choices" ["self"] (spMC K Tb C R_ch) := by
  have C_OPERAND_ENDS := TE.c
  refine mt_C Fn sc_Walk_choices hM hb (fun fs ds kvs h => by obtain ⟨_, _, _, _, _, rfl, _⟩ := h; rfl) fun cdv A outer s H Ek hr => ⟨_, (pss_cons (ps_set (i := 1) sc_Walk_choices.nd rfl (by first | exact .inl rfl | exact .inr rfl) (pe_callTy (uDictK K (by rfl)) (by rfl) Z.dict (by decide +kernel) (pa_cons (pe_kix K w (pe_gc C_NEXT_STATES (by rfl)) (pe_fldK K (pv 0)) (fun _ _ => rfl)) pa_nil)))
      (Evl.pss_cut (ps_if (pt_cmpR (uInK K) (pe_fldK K (pv 0)) (pe_gc C_OPERAND_ENDS (by rfl)) (by rfl)) (pss_cons (ps_for PassesOwn.never rfl (pi_kk K (pe_gc C_STRENGTHS (by rfl))) (pg_name (i := 2) sc_Walk_choices.nd rfl (by first | exact .inl rfl | exact .inr rfl)) (pss_one (ps_dput (hu_of hr) (pv 1) (pv 2) pe_str rfl))) (pss_one (ps_dput (hu_of hr) (pv 1) (pe_ifExp (pt_cmpR op_gt (pe_fldK K (pv 0)) pe_int (nomark _)) pe_str pe_str) pe_str rfl))) pss_nil)
      (pss_one (ps_ret (pv 1))))),  fun fs ds kvs F0 H0 a Q r ob rt => ?_⟩
  obtain ⟨st, dp, ir, rfl, hs, rfl, rfl⟩ := r
  show S _ _ _ [.raw (.ref a), .un, .un]
  have nl := nx_len st hs
  refine q_asgOD (eod_dictK TN (E.b (e_fldR rfl ob CL_Walk N1 (lk_st st dp ir))) (nx_at st hs)) ?_
  rw [show (nxF st).map (fun q => (q.1, PyData.str q.2)) = (nxF st).map txE from rfl, putAll_nd _ [] (by rw [List.nil_append, tx_keys]; exact nx_nd st hs), List.nil_append]
  show S _ _ _ [.raw (.ref a), .od ((nxF st).map txE), .un]
  refine s_cut [.raw (.ref a), .od ((chF st dp).map txE), .un] (s_if (b := decide (st ∈ ENDS)) (t_test (by rw [← inD_str]; exact b_op (E.b (e_fldR rfl ob CL_Walk N1 (lk_st st dp ir))) (E.b (e_tc TE)) (in_t rfl (scal_strs ENDS)) rfl)) (fun z => ?_) fun z => s_next (n_end1 ?_)) ?_
  · have hE := of_decide_eq_true z
    refine q_for1 (fun i => [.raw (.ref a), .od ((nxF st ++ sgE i).map txE), .un]) (it_kk TS) ?_ (fun F1 i d hd => ?_) ?_
    · rw [show nxF st ++ sgE 0 = nxF st from List.append_nil _]; exact Wk.refl _
    · rw [List.getElem?_map] at hd
      cases hg : SGs[i]? with
      | none => rw [hg] at hd; cases hd
      | some x =>
        rw [hg] at hd; cases hd
        have hi : i < 12 := (List.getElem?_eq_some_iff.mp hg).1
        have ex : SGs.getD i "" = x := by rw [List.getD_eq_getElem?_getD, hg]; rfl
        have nw := sg_new st hE i hi
        rw [ex] at nw
        refine ⟨_, _, g_name, ?_⟩
        refine s_dput (k := x) (d := .str "operand") rfl (e_var rfl) e_str ?_ (n_end1 ?_)
        · have := sgE_len i
          rw [List.length_map, List.length_append]; omega
        · rw [putD_new (by rw [tx_keys]; exact nw), show (nxF st ++ sgE i).map txE ++ [(x, .str "operand")] = (nxF st ++ sgE (i + 1)).map txE by rw [sgE_succ hg, ← List.append_assoc, List.map_append (l₂ := [(x, ("operand" : Str))])]; rfl]
          exact .keep rfl (.keep rfl (.drop .nil))
    · show S _ _ _ [.raw (.ref a), .od ((nxF st ++ sgE 12).map txE), .un]
      have en := en_new st hE (if dp > 0 then (")" : Str) else ("END" : Str)) (by split <;> decide)
      refine s_dput (k := if dp > 0 then (")" : Str) else ("END" : Str)) (d := .str "operand_end") rfl (e_if (b := decide (dp > 0)) (t_test (b_op (E.b (e_fldR rfl ob CL_Walk N2 (lk_dp st dp ir))) (E.b e_int) gt_i rfl)) (fun h => ?_) fun h => ?_) e_str ?_ (n_end1 ?_)
      · rw [if_pos (of_decide_eq_true h)]; exact e_str
      · rw [if_neg (of_decide_eq_false h)]; exact e_str
      · have := sgE_len 12
        rw [List.length_map, List.length_append]; omega
      · rw [putD_new (by rw [tx_keys]; exact en)]
        have e : chF st dp = nxF st ++ sgE 12 ++ [((if dp > 0 then (")" : Str) else ("END" : Str)), ("operand_end" : Str))] := if_pos hE
        rw [e, List.map_append (l₂ := [((if dp > 0 then (")" : Str) else ("END" : Str)), ("operand_end" : Str))])]
        exact .keep rfl (.keep rfl (.drop .nil))
  · rw [show chF st dp = nxF st from if_neg (of_decide_eq_false z)]
    exact Wk.refl _
  · exact s_retD0 (j := 1) rfl rt
end
section
variable {P : Program} {w : World} {K : PySem.W.Frag} {mg : Str → Option Value} {base : Heap} {f C : Addr} {fd : FuncData} {Tb : List Addr} {k : Nat}
def R_tk : List (Str × PyData) → List PyData → List (Str × PyData) → PyData → Prop := fun fs ds fs' d => ∃ (s : WkS) (x : PyData), s.1 ∈ STs ∧ TkR x ∧ fs = wkD s ∧ ds = [x] ∧ fs' = wkD ((tkStep s x).getD s) ∧ d = .bool (tkStep s x).isSome
theorem cf_num {x : PyData} {l : List (Str × Str)} (h : tkK x = "number") : cfF (tkK x) (tkV x) l = "NUMBER" := if_pos h
theorem tx_sc (l : List (Str × Str)) : ∀ p ∈ l.map txE, scalD p.2 = true := fun p hp => by
  obtain ⟨q, _, rfl⟩ := List.mem_map.mp hp
  rfl
theorem ok_tk (Fn : Fun K "take" "Walk.take" s_Walk_take f fd) (hM : Meth K C "take" f) (hb : Binds K fd ["self", "token"] []) (Z : Zb mg) (CL_Walk : Cls K C) (N1 : NoAttr K C "state")
    (M_Walk_choices : MtOk P w K mg base 1 C "choices" ["self"] (spMC K Tb C R_ch))
    (M_Walk_note_brackets : MtOk P w K mg base 1 C "note_brackets" ["self", "choice", "state"] (spM K Tb C R_nb))
    (M_Walk_refined : MtOk P w K mg base 1 C "refined" ["self", "token", "state"] (spMR K Tb C R_rf))
    (D_choice_for : Df P w K mg base 1 "choice_for" ["token", "choices"] (spK K Tb R_cf)) :
    MtOk P w K mg base 2 C "take" ["self", "token"] (spM K Tb C R_tk) := by
  refine mt_M Fn sc_Walk_take hM hb (fun fs ds fs' d h => by obtain ⟨_, _, _, _, _, rfl, _⟩ := h; rfl) fun cdv A outer s H Ek hr => ⟨_, (pss_cons (ps_set (i := 2) sc_Walk_take.nd rfl (by first | exact .inl rfl | exact .inr rfl) (pe_mtM0 M_Walk_choices CL_Walk hr (by first | decide | exact Nat.le_refl _ | omega) (pv 0)))
      (pss_cons (ps_set (i := 3) sc_Walk_take.nd rfl (by first | exact .inl rfl | exact .inr rfl) (pe_df D_choice_for hr (by first | decide | exact Nat.le_refl _ | omega) (by rfl) (pa_cons (pv 1) (pa_cons (pv 2) pa_nil))))
      (pss_cons (ps_if (pt_cmp (pc_dnotin (hu_of hr) (pv 3) (pv 2))) (pss_one (ps_ret pe_bl)) pss_nil)
      (pss_cons (ps_expr (pe_mtM M_Walk_note_brackets CL_Walk hr (by first | decide | exact Nat.le_refl _ | omega) (pv 0) (pa_cons (pv 3) (pa_cons (pe_dget (hu_of hr) (pv 2) (pv 3) (fun _ _ => rfl)) pa_nil))))
      (pss_cons (ps_fldK K (pv 0) (pe_mtM M_Walk_refined CL_Walk hr (by first | decide | exact Nat.le_refl _ | omega) (pv 0) (pa_cons (pv 1) (pa_cons (pe_dget (hu_of hr) (pv 2) (pv 3) (fun _ _ => rfl)) pa_nil))))
      (pss_one (ps_ret pe_bl))))))),  fun fs ds fs' d F0 H0 a dx Q r rt => ?_⟩
  obtain ⟨⟨st, dp, ir⟩, x, hs, tk, rfl, rfl, rfl, rfl⟩ := r
  have hs : st ∈ STs := hs
  show S _ _ _ [.ob (insC K a C dx (wkF st dp ir)), .fz x, .un, .un]
  refine q_asgOD (eod_methC (R := R_ch) (kvs := (chF st dp).map txE) rfl a_nil rfl ⟨st, dp, ir, rfl, hs, rfl, rfl⟩ (tx_sc _)) ?_
  show S _ _ _ [.ob (insC K a C dx (wkF st dp ir)), .fz x, .od ((chF st dp).map txE), .un]
  obtain ⟨c, hc⟩ : ∃ c, cfF (tkK x) (tkV x) (chF st dp) = c := ⟨_, rfl⟩
  refine q_asg (d := .str c) (x_call (R := R_cf) (as := [.d x, .k ((chF st dp).map txE)]) (ax_d (E.b (e_var rfl)) (ax_k rfl ax_nil)) ⟨x, chF st dp, rfl, tk, by rw [hc]⟩ rfl) ?_
  show S _ _ _ [.ob (insC K a C dx (wkF st dp ir)), .fz x, .od ((chF st dp).map txE), .fz (.str c)]
  unfold tkStep at rt
  have rt : RtM ⟨K, Tb, F0, H0, F0⟩ a C dx Q (wkD (((match (chF st dp).lookup (cfF (tkK x) (tkV x) (chF st dp)) with | none => none | some to => some (rfF to (tkV x) (nbI st to ir), nbD st (cfF (tkK x) (tkV x) (chF st dp)) to dp, nbI st to ir)) : Option WkS).getD (st, dp, ir))) (.bool ((match (chF st dp).lookup (cfF (tkK x) (tkV x) (chF st dp)) with | none => none | some to => some (rfF to (tkV x) (nbI st to ir), nbD st (cfF (tkK x) (tkV x) (chF st dp)) to dp, nbI st to ir)) : Option WkS).isSome) := rt
  rw [hc] at rt
  have hg := getK_tx c (chF st dp)
  cases hl : (chF st dp).lookup c with
  | none =>
    rw [hl] at rt hg
    refine q_if (b := !(getK ((chF st dp).map txE) c).isSome) (t_dnin rfl (e_var rfl)) (fun z => ?_) fun z => by rw [hg] at z; cases z
    exact s_retM e_bl rfl rt
  | some to =>
    rw [hl] at rt hg
    have hg : getK ((chF st dp).map txE) c = some (.str to) := hg
    refine q_if (b := !(getK ((chF st dp).map txE) c).isSome) (t_dnin rfl (e_var rfl)) (fun z => by rw [hg] at z; cases z) fun z => s_next (n_go ?_)
    refine q_exprG (eg_meth (R := R_nb) (fs' := wkF st (nbD st c to dp) (nbI st to ir)) (d := .none) (ds := [.str c, .str to]) (i := 0) rfl (a_cons (e_var rfl) (a_cons (e_dget (i := 2) rfl (e_var rfl) hg) a_nil)) rfl ⟨st, dp, ir, c, to, rfl, rfl, rfl, rfl⟩) ?_
    show S _ _ _ [.ob (insC K a C dx (wkF st (nbD st c to dp) (nbI st to ir))), .fz x, .od ((chF st dp).map txE), .fz (.str c)]
    have nn : to = "metric" → tkK x ≠ "number" := fun e h => by
      rw [cf_num h] at hc
      subst hc
      exact ch_num hs hl e
    refine q_fldM (d := .str (rfF to (tkV x) (nbI st to ir))) rfl (e_methR (R := R_rf) (ds := [x, .str to]) (i := 0) rfl (a_cons (e_var rfl) (a_cons (e_dget (i := 2) rfl (e_var rfl) hg) a_nil)) rfl ⟨st, nbD st c to dp, nbI st to ir, x, to, rfl, rfl, tk, nn, rfl⟩ rfl) CL_Walk N1 (Nat.le_of_ble_eq_true rfl) ?_
    exact s_retM (fs' := wkF (rfF to (tkV x) (nbI st to ir)) (nbD st c to dp) (nbI st to ir)) e_bl rfl rt
/-! ### walk_along, expected -/
def W0 : WkS := ("operand", 0, false)
theorem w0_st : W0.1 ∈ STs := by decide +kernel
def R_wa : List PyData → List (Str × PyData) → PyData → Prop := fun ds fs z => ∃ toks : List PyData, ds = [.list toks] ∧ (∀ x ∈ toks, TkR x) ∧ fs = wkD (wkR W0 toks).1 ∧ z = ((wkR W0 toks).2).getD .none
theorem ok_wa (Fn : Fun K "walk_along" "walk_along" s_walk_along f fd) (hm : mg "walk_along" = some (.ref f)) (hb : Binds K fd ["tokens"] []) (Z : Zb mg) (CL_Walk : Cls K C)
    (MK_Walk : MkM P w K mg base 1 "Walk" C ["self"] (spM K Tb C R_wi))
    (M_Walk_take : MtOk P w K mg base 2 C "take" ["self", "token"] (spM K Tb C R_tk)) :
    Df P w K mg base 3 "walk_along" ["tokens"] (spTO K Tb C R_wa) := by
  refine df_TO Fn sc_walk_along hm hb (fun ds fs z h => by obtain ⟨_, rfl, _⟩ := h; rfl) fun cdv A outer s H Ek hr => ⟨_, (pss_cons (ps_set (i := 1) sc_walk_along.nd rfl (by first | exact .inl rfl | exact .inr rfl) (pe_mkM0 MK_Walk hr (by first | decide | exact Nat.le_refl _ | omega) (by rfl)))
      (pss_cons (ps_for PassesOwn.never rfl (pi_any (pv 0)) (pg_name (i := 2) sc_walk_along.nd rfl (by first | exact .inl rfl | exact .inr rfl)) (pss_one (ps_if (pt_not (pt_truthK K (pe_mtM M_Walk_take CL_Walk hr (by first | decide | exact Nat.le_refl _ | omega) (pv 1) (pa_cons (pv 2) pa_nil)) (by intro _; rfl))) (pss_one (ps_ret (pe_tup (pa_cons (pv 1) (pa_cons (pv 2) pa_nil))))) pss_nil)))
      (pss_one (ps_ret (pe_tup (pa_cons (pv 1) (pa_cons pe_non pa_nil))))))),  fun ds fs z F0 H0 Q r rt => ?_⟩
  obtain ⟨toks, rfl, tk, rfl, rfl⟩ := r
  show S _ _ _ [.fz (.list toks), .un, .un]
  refine q_makeM (R := R_wi) (ds := []) (i := 1) (fs' := wkD W0) a_nil ⟨rfl, rfl, rfl, rfl⟩ fun a dx => ?_
  show S _ _ _ [.fz (.list toks), .ob (insC K a C dx (wkD W0)), .un]
  refine q_for (α := WkS) (fun _ s => [.fz (.list toks), .ob (insC K a C dx (wkD s)), .un]) (fun i s => wkR s (toks.drop i) = wkR W0 toks ∧ s.1 ∈ STs) (it_al (e_var rfl)) W0 ⟨rfl, w0_st⟩ (Wk.refl _) (fun F1 i s d hd p => ?_) fun s p => ?_
  · obtain ⟨h1, h2⟩ := p
    rw [drop_get hd, wkR] at h1
    have hx := tk d (List.mem_of_getElem? hd)
    refine ⟨_, _, g_name, ?_⟩
    show S _ _ _ [.fz (.list toks), .ob (insC K a C dx (wkD s)), .fz d]
    refine s_ifG (i := 1) (b := !(tkStep s d).isSome) (s' := .ob (insC K a C dx (wkD ((tkStep s d).getD s)))) (tg_not (tg_tru (eg_meth (R := R_tk) (ds := [d]) (i := 1) rfl (a_cons (e_var rfl) a_nil) rfl ⟨s, d, h2, hx, rfl, rfl, rfl, rfl⟩) rfl)) (fun z => ?_) fun z => ?_
    · cases e : tkStep s d with
      | some s' => rw [e] at z; cases z
      | none =>
        rw [e] at h1
        have h1 : (s, some d) = wkR W0 toks := h1
        rw [← h1] at rt
        exact s_retTO (i := 1) rfl (e_var rfl) rt
    · cases e : tkStep s d with
      | none => rw [e] at z; cases z
      | some s' =>
        rw [e] at h1
        exact s_next (n_end s' ⟨h1, step_st h2 e⟩ (.keep rfl (.keep rfl (.drop .nil))))
  · have h1 : wkR s (toks.drop toks.length) = wkR W0 toks := p.1
    rw [List.drop_length, wkR] at h1
    rw [← h1] at rt
    exact s_retTO (i := 1) rfl e_non rt
theorem wk_st9 : ∀ (l : List PyData) (s : WkS), s.1 ∈ STs → (wkR s l).1.1 ∈ STs
  | [], s, h => h
  | x :: l, s, h => by
    rw [wkR]
    cases e : tkStep s x with
    | none => exact h
    | some s' => exact wk_st9 l s' (step_st h e)
theorem wk_tk : ∀ (l : List PyData) (s : WkS) (x : PyData), (wkR s l).2 = some x → x ∈ l
  | [], s, x, h => by cases h
  | y :: l, s, x, h => by
    rw [wkR] at h
    cases e : tkStep s y with
    | none => rw [e] at h; cases h; exact List.mem_cons_self
    | some s' => rw [e] at h; exact List.mem_cons_of_mem _ (wk_tk l s' x h)
end
abbrev Mt := Str × List Str × Bool
abbrev mtD (m : Mt) : PyData := .tuple [.str m.1, .tuple (m.2.1.map .str), .bool m.2.2]
/-! ### expressions -/
inductive Xp where
  | num (n : Int)
  | lat (m : Str) (ms : List Mt)
  | ovr (w m : Str) (ms : List Mt) (n : Int)
  | agg (w : Str) (ns : List Str) (e : Xp)
  | bin (s : Str) (l r : Xp)
abbrev msD (ms : List Mt) : PyData := .tuple (ms.map mtD)
abbrev tsD (ns : List Str) : PyData := .tuple (ns.map .str)
def exD : Xp → PyData
  | .num n => .tuple [.str "number", .int n]
  | .lat m ms => .tuple [.str "latest", .str m, msD ms]
  | .ovr w m ms n => .tuple [.str "over", .str w, .str m, msD ms, .int n]
  | .agg w ns e => .tuple [.str "aggregate", .str w, tsD ns, exD e]
  | .bin s l r => .tuple [.str "binary", .str s, exD l, exD r]
def dep : Xp → Nat
  | .agg _ _ e => dep e + 1
  | .bin _ l r => max (dep l) (dep r) + 1
  | _ => 0
def opsN : Xp → Nat
  | .agg _ _ e => opsN e + 1
  | .bin _ l r => opsN l + opsN r + 1
  | _ => 0
def sels : Xp → Nat
  | .num _ => 0
  | .agg _ _ e => sels e
  | .bin _ l r => sels l + sels r
  | _ => 1
theorem dep_ops : ∀ e : Xp, dep e ≤ opsN e
  | .num _ => Nat.le_refl _
  | .lat _ _ => Nat.le_refl _
  | .ovr _ _ _ _ => Nat.le_refl _
  | .agg _ _ e => Nat.succ_le_succ (dep_ops e)
  | .bin _ l r => by
    have := dep_ops l
    have := dep_ops r
    show max (dep l) (dep r) + 1 ≤ opsN l + opsN r + 1
    omega
inductive Ki where
  | num
  | vec
  | no
def kiD : Ki → PyData
  | .num => .str "number"
  | .vec => .str "vector"
  | .no => .none
def joins (s : Str) : Bool := inD (.str s) [.str "and", .str "or", .str "unless"]
def ariths (s : Str) : Bool := inD (.str s) [.str "+", .str "-", .str "*"]
def kib (s : Str) : Ki → Ki → Ki
  | .no, _ => .no
  | _, .no => .no
  | .vec, .vec => if joins s then .vec else .vec
  | .num, .num => if joins s then .no else if ariths s then .num else .no
  | _, _ => if joins s then .no else .vec
def kif : Xp → Ki
  | .num _ => .num
  | .lat _ _ => .vec
  | .ovr _ _ _ _ => .vec
  | .agg _ _ e => match kif e with
    | .vec => .vec
    | _ => .no
  | .bin s l r => kib s (kif l) (kif r)
theorem kw1 : ("number" : Str) ≠ "latest" ∧ ("number" : Str) ≠ "over" ∧ ("number" : Str) ≠ "aggregate" ∧ ("number" : Str) ≠ "binary" := by decide +kernel
theorem kw2 : ("latest" : Str) ≠ "number" ∧ ("latest" : Str) ≠ "over" ∧ ("latest" : Str) ≠ "aggregate" ∧ ("latest" : Str) ≠ "binary" := by decide +kernel
theorem kw3 : ("over" : Str) ≠ "number" ∧ ("over" : Str) ≠ "latest" ∧ ("over" : Str) ≠ "aggregate" ∧ ("over" : Str) ≠ "binary" := by decide +kernel
theorem kw4 : ("aggregate" : Str) ≠ "number" ∧ ("aggregate" : Str) ≠ "latest" ∧ ("aggregate" : Str) ≠ "over" ∧ ("aggregate" : Str) ≠ "binary" := by decide +kernel
theorem kw6 : ("number" : Str) ≠ "vector" ∧ ("vector" : Str) ≠ "number" := by decide +kernel
def wrd : Xp → Str
  | .num _ => "number"
  | .lat _ _ => "latest"
  | .ovr _ _ _ _ => "over"
  | .agg _ _ _ => "aggregate"
  | .bin _ _ _ => "binary"
def eqN (w : Str) : Ki → Bool
  | .num => decide (("number" : Str) = w)
  | .vec => decide (("vector" : Str) = w)
  | .no => false
theorem ex_tup (e : Xp) : ∃ l, exD e = .tuple l ∧ atI l 0 = some (.str (wrd e)) := by cases e <;> exact ⟨_, rfl, rfl⟩
theorem ev1 : eqN "vector" .num = false := decide_eq_false kw6.1
theorem ev2 : eqN "vector" .vec = true := (show decide (("vector" : Str) = "vector") = true from decide_eq_true rfl)
theorem ev3 : eqN "vector" .no = false := rfl
theorem kib_no {s : Str} {a b : Ki} (h : (isND (kiD a) || isND (kiD b)) = true) : kib s a b = .no := by cases a <;> cases b <;> first | rfl | cases h
structure MtOk (ns ws : List Str) (m : Mt) : Prop where
  nm : m.1 ∈ ns
  ne : m.2.1 ≠ []
  le : m.2.1.length ≤ 2
  va : ∀ v ∈ m.2.1, v ∈ ws ∨ v = ""
/-! ### _law_kind -/
section
variable {P : Program} {w : World} {K : PySem.W.Frag} {mg : Str → Option Value} {base : Heap} {f : Addr} {fd : FuncData} {Tb : List Addr} {k : Nat}
theorem eq_ki {g : Gd} {w : Str} (q : Ki) : RB g (rEqU g.K) (kiD q) (.str w) (.bool (eqN w q)) := by
  cases q with
  | num => exact eq_s
  | vec => exact eq_s
  | no => exact eq_ns
end
/-! ### parts of an expression -/
def partsF : Xp → List Xp
  | .agg _ _ e => [e]
  | .bin _ l r => [l, r]
  | _ => []
theorem parts_dep {e p : Xp} (h : p ∈ partsF e) : dep p < dep e ∧ sels p ≤ sels e := by
  cases e with
  | num _ => cases h
  | lat _ _ => cases h
  | ovr _ _ _ _ => cases h
  | agg _ _ e => rw [List.mem_singleton.mp h]; exact ⟨Nat.lt_succ_self _, Nat.le_refl _⟩
  | bin _ l r =>
    show dep p < max (dep l) (dep r) + 1 ∧ sels p ≤ sels l + sels r
    simp only [partsF, List.mem_cons, List.not_mem_nil, or_false] at h
    rcases h with rfl | rfl <;> omega
/-! ### steps of an expression -/
inductive Sx where
  | lf (e : Xp)
  | ag (w : Str) (ns : List Str)
  | bi (s : Str)
def sxD : Sx → PyData
  | .lf e => exD e
  | .ag w ns => .tuple [.str "aggregate", .str w, tsD ns]
  | .bi s => .tuple [.str "binary", .str s]
def leafX : Xp → Prop
  | .agg _ _ _ => False
  | .bin _ _ _ => False
  | _ => True
def sxOk : Sx → Prop
  | .lf e => leafX e
  | _ => True
def stF : Xp → List Sx
  | .agg w ks e => stF e ++ [.ag w ks]
  | .bin s l r => stF l ++ stF r ++ [.bi s]
  | e => [.lf e]
def nod : Xp → Nat
  | .agg _ _ e => nod e + 1
  | .bin _ l r => nod l + nod r + 1
  | _ => 1
theorem st_len : ∀ e : Xp, (stF e).length = nod e
  | .num _ => rfl
  | .lat _ _ => rfl
  | .ovr _ _ _ _ => rfl
  | .agg _ _ e => by show (stF e ++ [_]).length = nod e + 1; rw [List.length_append, st_len e]; rfl
  | .bin _ l r => by show (stF l ++ stF r ++ [_]).length = nod l + nod r + 1; rw [List.length_append, List.length_append, st_len l, st_len r]; rfl
theorem nod_le : ∀ e : Xp, 1 ≤ nod e ∧ nod e ≤ 2 * opsN e + 1
  | .num _ => ⟨Nat.le_refl _, Nat.le_refl _⟩
  | .lat _ _ => ⟨Nat.le_refl _, Nat.le_refl _⟩
  | .ovr _ _ _ _ => ⟨Nat.le_refl _, Nat.le_refl _⟩
  | .agg _ _ e => by
    have := nod_le e
    show 1 ≤ nod e + 1 ∧ nod e + 1 ≤ 2 * (opsN e + 1) + 1
    omega
  | .bin _ l r => by
    have := nod_le l
    have := nod_le r
    show 1 ≤ nod l + nod r + 1 ∧ nod l + nod r + 1 ≤ 2 * (opsN l + opsN r + 1) + 1
    omega
theorem st_ok : ∀ e : Xp, ∀ x ∈ stF e, sxOk x
  | .num _, x, h => by rw [List.mem_singleton.mp h]; trivial
  | .lat _ _, x, h => by rw [List.mem_singleton.mp h]; trivial
  | .ovr _ _ _ _, x, h => by rw [List.mem_singleton.mp h]; trivial
  | .agg w ks e, x, h => by
    rcases List.mem_append.mp h with h | h
    · exact st_ok e x h
    · rw [List.mem_singleton.mp h]; trivial
  | .bin s l r, x, h => by
    rcases List.mem_append.mp h with h | h
    · rcases List.mem_append.mp h with h | h
      · exact st_ok l x h
      · exact st_ok r x h
    · rw [List.mem_singleton.mp h]; trivial
/-- PARTS_TAKEN, the written dict -/
structure PtOk (K : PySem.W.Frag) (w : World) (mg : Str → Option Value) (p : Addr) : Prop where
  gC : mg "PARTS_TAKEN" = some (.ref p)
  kd : KdO K w p
  b : ∃ t, PySem.W.nsIn K p "binary" = some (some (.int 2 t))
  a : ∃ t, PySem.W.nsIn K p "aggregate" = some (some (.int 1 t))
  n : PySem.W.nsIn K p "number" = some none
  l : PySem.W.nsIn K p "latest" = some none
  o : PySem.W.nsIn K p "over" = some none
theorem PtOk.c {K : PySem.W.Frag} {w : World} {mg : Str → Option Value} {p : Addr} (T : PtOk K w mg p) : ∃ u, mg "PARTS_TAKEN" = some u ∧ RelV (.ref p) u := ⟨_, T.gC, rfl⟩
def tkn : Sx → Nat
  | .lf _ => 0
  | .ag _ _ => 1
  | .bi _ => 2
section
variable {P : Program} {w : World} {K : PySem.W.Frag} {mg : Str → Option Value} {base : Heap} {f : Addr} {fd : FuncData} {Tb : List Addr} {k : Nat}
theorem e_pt {g : Gd} {G : List Sl} {p : Addr} {i : Nat} {x : Sx} (T : PtOk g.K w mg p) (h : G[i]? = some (.fz (sxD x))) (hx : sxOk x) : E g (tKGet2 g.K w (tC (.ref p)) (tOp (rIx g.K) (tVar i) (tC (.int 0))) (tC (.int 0))) G (.int (tkn x : Nat)) := by
  cases x with
  | lf e =>
    cases e with
    | num n => exact e_kget T.kd (e_op (e_var h) e_int (ix_t rfl)) e_int (.inr ⟨T.n, rfl⟩)
    | lat m ms => exact e_kget T.kd (e_op (e_var h) e_int (ix_t rfl)) e_int (.inr ⟨T.l, rfl⟩)
    | ovr wo m ms n => exact e_kget T.kd (e_op (e_var h) e_int (ix_t rfl)) e_int (.inr ⟨T.o, rfl⟩)
    | agg _ _ _ => exact hx.elim
    | bin _ _ _ => exact hx.elim
  | ag wo ns =>
    obtain ⟨t, e⟩ := T.a
    exact e_kget T.kd (e_op (e_var h) e_int (ix_t rfl)) e_int (.inl ⟨t, 1, e, rfl⟩)
  | bi s =>
    obtain ⟨t, e⟩ := T.b
    exact e_kget T.kd (e_op (e_var h) e_int (ix_t rfl)) e_int (.inl ⟨t, 2, e, rfl⟩)
end
/-! ### steps are built, or refused at a place -/
def mkX : Sx → List Xp → Xp
  | .lf e, _ => e
  | .ag w ks, [x] => .agg w ks x
  | .bi s, [l, r] => .bin s l r
  | _, _ => .num 0
def stepX (A : List Xp) (x : Sx) : Option (List Xp) := if A.length < tkn x then none else some (A.take (A.length - tkn x) ++ [mkX x (A.drop (A.length - tkn x))])
def outE (k : Nat) : List Xp → Xp ⊕ Nat
  | [e] => .inl e
  | _ => .inr k
def outG : Nat → List Xp → List Sx → Xp ⊕ Nat
  | k, A, [] => outE k A
  | k, A, x :: r => match stepX A x with
    | none => .inr k
    | some B => outG (k + 1) B r
def outS (S : List Sx) : Xp ⊕ Nat := outG 0 [] S
theorem mk_D {x : Sx} (hx : sxOk x) {C : List Xp} (h : C.length = tkn x) : ∃ l, sxD x = .tuple l ∧ l.length ≤ 5 ∧ exD (mkX x C) = .tuple (l ++ C.map exD) := by
  cases x with
  | lf e =>
    have h : C.length = 0 := h
    obtain rfl := List.length_eq_zero_iff.mp h
    cases e with
    | num n => exact ⟨_, rfl, by show 2 ≤ 5; decide, rfl⟩
    | lat m ms => exact ⟨_, rfl, by show 3 ≤ 5; decide, rfl⟩
    | ovr wo m ms n => exact ⟨_, rfl, by show 5 ≤ 5; decide, rfl⟩
    | agg _ _ _ => exact hx.elim
    | bin _ _ _ => exact hx.elim
  | ag wo ns =>
    match C, h with
    | [y], _ => exact ⟨_, rfl, by show 3 ≤ 5; decide, rfl⟩
  | bi s =>
    match C, h with
    | [l, r], _ => exact ⟨_, rfl, by show 2 ≤ 5; decide, rfl⟩
theorem step_none {A : List Xp} {x : Sx} (h : A.length < tkn x) : stepX A x = none := if_pos h
theorem step_some {A : List Xp} {x : Sx} (h : tkn x ≤ A.length) : stepX A x = some (A.take (A.length - tkn x) ++ [mkX x (A.drop (A.length - tkn x))]) := if_neg (by omega)
theorem step_len {A B : List Xp} {x : Sx} (h : stepX A x = some B) : B.length ≤ A.length + 1 := by
  unfold stepX at h
  split at h
  · cases h
  · cases h
    rw [List.length_append, List.length_take, List.length_singleton]; omega
/-- the state behind i turns -/
def okS (S : List Sx) (i : Nat) (A : List Xp) : Prop := outG i A (S.drop i) = outS S ∧ A.length ≤ i
theorem okS_next {S : List Sx} {i : Nat} {A : List Xp} {x : Sx} (h : okS S i A) (hx : S[i]? = some x) : (A.length < tkn x → outS S = .inr i) ∧ (tkn x ≤ A.length → okS S (i + 1) (A.take (A.length - tkn x) ++ [mkX x (A.drop (A.length - tkn x))])) := by
  obtain ⟨h1, h2⟩ := h
  obtain ⟨hi, rfl⟩ := List.getElem?_eq_some_iff.mp hx
  rw [List.drop_eq_getElem_cons hi] at h1
  have h1 : (match stepX A S[i] with | none => .inr i | some B => outG (i + 1) B (S.drop (i + 1))) = outS S := h1
  refine ⟨fun hl => ?_, fun hl => ?_⟩
  · rw [step_none hl] at h1; exact h1.symm
  · have e := step_some hl
    rw [e] at h1
    exact ⟨h1, Nat.le_trans (step_len e) (by omega)⟩
theorem okS_end {S : List Sx} {A : List Xp} (h : okS S S.length A) : outS S = outE S.length A := by
  have h1 := h.1
  rw [List.drop_length] at h1
  exact h1.symm
section
variable {P : Program} {w : World} {K : PySem.W.Frag} {mg : Str → Option Value} {base : Heap} {f : Addr} {fd : FuncData} {Tb : List Addr} {k : Nat}
def fromO (C : Addr) (S : List Sx) : Out := match outS S with
  | .inl e => .val (exD e)
  | .inr k => .exc C [("place", .int (k : Nat))]
def R_from (C : Addr) : List PyData → Out → Prop := fun ds o => ∃ S : List Sx, ds = [.list (S.map sxD)] ∧ S.length ≤ 1000 ∧ (∀ x ∈ S, sxOk x) ∧ o = fromO C S
theorem ok_from {C p : Addr} (Fn : Fun K "from_steps" "from_steps" s_from_steps f fd) (hm : mg "from_steps" = some (.ref f)) (hb : Binds K fd ["steps"] []) (Z : Zb mg) (PT : PtOk K w mg p)
    (XI_BadSteps : XiOk P w K mg base "BadSteps" C "place") :
    DfX P w K mg base 3 "from_steps" ["steps"] (spX K Tb (R_from C)) := by
  have C_PARTS_TAKEN := PT.c
  refine df_X Fn sc_from_steps hm hb (fun ds d h => by obtain ⟨_, rfl, _⟩ := h; rfl) fun cdv A outer s H Ek hr => ⟨_, (pss_cons (ps_set (i := 1) sc_from_steps.nd rfl (by first | exact .inl rfl | exact .inr rfl) (pe_lst pa_nil))
      (pss_cons (ps_for (passes_of rfl) rfl (pi_enum (by rfl) Z.enumerate (pa_cons (pv 0) pa_nil)) (pg_tupK (n := 2) K rfl (pgs_cons (pg_name (i := 2) sc_from_steps.nd rfl (by first | exact .inl rfl | exact .inr rfl)) (pgs_cons (pg_name (i := 3) sc_from_steps.nd rfl (by first | exact .inl rfl | exact .inr rfl)) pgs_nil))) (pss_cons (ps_set (i := 4) sc_from_steps.nd rfl (by first | exact .inl rfl | exact .inr rfl) (pe_op op_sub (pe_callB (uLenK K) (by rfl) Z.len (by decide +kernel) (pa_cons (pv 1) pa_nil)) (pe_kget2 (pe_gc C_PARTS_TAKEN (by rfl)) (pe_ix (ix_seqK K) (pv 3) pe_int (fun _ _ => rfl)) pe_int (M2.mk (by rfl) (by rfl) (by rfl) (by rfl)))))
      (pss_cons (ps_if (pt_cmpR uLt (pv 4) pe_int (nomark _)) (pss_one (ps_raiseI (W := fun cls d _ H => Ek cls d H) rfl XI_BadSteps hr (by first | decide | omega) (takes_of rfl rfl rfl rfl) (by rfl) (pa_cons (pv 2) pa_nil))) pss_nil)
      (pss_one (ps_asg (pe_lst (pa_cons (pe_op (uCatK K) (pv 3) (pe_callTy (uTupK K) (by rfl) Z.tuple (by decide +kernel) (pa_cons (pe_slice (uSlK K) (pv 1) (po_some (pv 4)) po_none) pa_nil))) pa_nil)) (pg_tail (pv 1) (po_some (pv 4))))))))
      (pss_cons (ps_if (pt_cmpR (uNePK K hr.units) (pe_callB (uLenK K) (by rfl) Z.len (by decide +kernel) (pa_cons (pv 1) pa_nil)) pe_int (nomark _)) (pss_one (ps_raiseI (W := fun cls d _ H => Ek cls d H) rfl XI_BadSteps hr (by first | decide | omega) (takes_of rfl rfl rfl rfl) (by rfl) (pa_cons (pe_callB (uLenK K) (by rfl) Z.len (by decide +kernel) (pa_cons (pv 0) pa_nil)) pa_nil))) pss_nil)
      (pss_one (ps_ret (pe_ix (ix_seqK K) (pv 1) pe_int (fun _ _ => rfl))))))),  fun ds o F0 H0 Q r rt => ?_⟩
  obtain ⟨S, rfl, hl, hS, rfl⟩ := r
  refine q_asgL (ds := []) (el_lst a_nil (by decide)) ?_
  refine q_for (fun i (A : List Xp) => [.fz (.list (S.map sxD)), .ow (A.map exD), .un, .un, .un]) (fun i A => okS S i A) (it_enum (e_var rfl)) [] ⟨rfl, Nat.le_refl _⟩ (Wk.refl _) (fun F1 i A d hd hg => ?_) fun A hg => ?_
  · obtain ⟨d', hq, rfl⟩ := enD_get _ _ _ _ hd
    obtain ⟨x, hx, rfl⟩ := map_get hq
    have hi : i < S.length := (List.getElem?_eq_some_iff.mp hx).1
    have ox := hS x (List.mem_of_getElem? hx)
    obtain ⟨n1, n2⟩ := okS_next hg hx
    have la := hg.2
    rw [Nat.zero_add]
    refine ⟨_, _, g_tup (gs_cons g_name (gs_cons g_name gs_nil)) rfl, ?_⟩
    have lm : ((A.map exD).length : Int) = (A.length : Int) := by rw [List.length_map]
    refine q_asg (d := .int ((A.length : Int) - (tkn x : Nat))) (by rw [← lm]; exact e_op (b_cb (ab_cons (b_ow rfl) ab_nil) len_l rfl) (e_pt PT rfl ox) sub_i) ?_
    refine q_if (b := decide ((A.length : Int) - (tkn x : Nat) < 0)) (t_test (b_op (E.b (e_var rfl)) (E.b e_int) lt_i rfl)) (fun z => ?_) fun z => s_next (n_go ?_)
    · have hz := of_decide_eq_true z
      have ev : fromO C S = .exc C [("place", .int (i : Nat))] := by
        unfold fromO
        rw [n1 (by omega)]
      rw [ev] at rt
      exact s_raise1 (e_var rfl) rt
    · have hz := of_decide_eq_false z
      have ht : tkn x ≤ A.length := by omega
      have tn : ((A.length : Int) - (tkn x : Nat)).toNat = A.length - tkn x := by omega
      have cu : cutD (A.map exD) (some ((A.length : Int) - (tkn x : Nat))) none = (A.drop (A.length - tkn x)).map exD := by
        rw [cut_map]
        congr 1
        have e1 : ((A.length : Int) - (tkn x : Nat)) = ((A.length - tkn x : Nat) : Int) := by omega
        rw [e1]
        unfold cutA
        rw [show HT.sIx A.length 0 (some ((A.length - tkn x : Nat) : Int)) = min (A.length - tkn x) A.length from HT.sIx_nat _ _ _, show HT.sIx A.length A.length none = A.length from rfl, Nat.min_eq_left (by omega)]
        exact List.take_of_length_le (by rw [List.length_drop]; omega)
      obtain ⟨l, el, ll, em⟩ := mk_D (x := x) ox (C := A.drop (A.length - tkn x)) (by rw [List.length_drop]; omega)
      refine s_tail (ds := A.map exD) (es := [exD (mkX x (A.drop (A.length - tkn x)))]) (k := (A.length : Int) - (tkn x : Nat)) rfl (el_lst (a_cons ?_ a_nil) (Nat.le_of_ble_eq_true rfl)) (e_var rfl) (by omega) (by rw [List.length_map]; omega) (by rw [List.length_map]; show _ + 1 ≤ _; omega) (n_end (A.take (A.length - tkn x) ++ [mkX x (A.drop (A.length - tkn x))]) (n2 ht) ?_)
      · rw [em]
        refine e_op (x := .tuple l) (y := .tuple ((A.drop (A.length - tkn x)).map exD)) (e_var (by rw [← el]; rfl)) (e_tupL ?_) (cat_t (ds := l) (es := (A.drop (A.length - tkn x)).map exD) (by rw [List.length_map, List.length_drop]; omega))
        rw [← cu]
        exact el_slO rfl (o_some (e_var rfl)) o_none
      · rw [tn, List.map_append, List.map_take]
        exact .keep rfl (.keep rfl (.drop (.drop (.drop .nil))))
  · have el : (enD 0 (S.map sxD)).length = S.length := by rw [enD_len, List.length_map]
    rw [el] at hg
    have eo := okS_end hg
    have lm : ((A.map exD).length : Int) = (A.length : Int) := by rw [List.length_map]
    refine q_if (b := !decide ((A.length : Int) = 1)) (t_test (by rw [← lm]; exact b_op (E.b (b_cb (ab_cons (b_ow rfl) ab_nil) len_l rfl)) (E.b e_int) neP_i rfl)) (fun z => ?_) fun z => s_next (n_go ?_)
    · have hz : ¬ (A.length : Int) = 1 := by simpa using z
      have ev : fromO C S = .exc C [("place", .int (S.length : Nat))] := by
        unfold fromO
        rw [eo]
        match A, hz with
        | [], _ => rfl
        | [_], hz => exact absurd rfl hz
        | _ :: _ :: _, _ => rfl
      have ls : ((S.map sxD).length : Int) = (S.length : Int) := by rw [List.length_map]
      rw [ev, ← ls] at rt
      exact s_raise1 (b_cb (ab_cons (E.b (e_var rfl)) ab_nil) len_l rfl) rt
    · have hz : (A.length : Int) = 1 := by simpa using z
      match A, hz, eo with
      | [y], _, eo =>
        have ev : fromO C S = .val (exD y) := by
          unfold fromO
          rw [eo]; rfl
        rw [ev] at rt
        exact s_ret (e_ixo rfl e_int rfl) rt
end
/-! ### Reader: tokens, its state, take, peek -/
theorem at_n0 {α : Type} {xs : List α} {q : Nat} (h : q < xs.length) : atI xs (q : Int) = xs[q]? := by
  rw [at_nat (by omega) (by omega), Int.toNat_natCast]
structure Tkn where
  k : Str
  v : PyData
  n : Nat
def tokD (t : Tkn) : PyData := .tuple [.str t.k, t.v, .int (t.n : Nat)]
abbrev MkT := Sx × Nat
def rmD (m : MkT) : PyData := .tuple [sxD m.1, .int (m.2 : Nat)]
abbrev RdS := List Tkn × List MkT
def rdL (a l : Addr) : Addr → Prop := fun p => p = a ∨ p = l
def rdF3 (vf : V) (q : Nat) (l : Addr) : List (Str × V) := [("found", vf), ("at", .int (q : Nat)), ("marks", .ref l)]
structure RdΨ (K : PySem.W.Frag) (C a dx l : Addr) (s : RdS) (F H : Hp) (vf : V) (ws : List V) (fnd : List Tkn) (q : Nat) : Prop where
  o : H a = some (.ins C dx (rdF3 vf q l))
  f : Dp K F vf (.list (fnd.map tokD))
  d : fnd.drop q = s.1
  z : q ≤ fnd.length
  m : H l = some (.lst ws)
  w : DpAll K F ws (s.2.map rmD)
  fa : F a = none
  fl : F l = none
  ne : a ≠ l
def rdG (K : PySem.W.Frag) (C a dx l : Addr) (s : RdS) : Gst (rdL a l) where
  Ψ := fun F H => ∃ vf ws fnd q, RdΨ K C a dx l s F H vf ws fnd q
  own := fun F H ⟨vf, ws, fnd, q, r⟩ p hp => by
    rcases hp with rfl | rfl
    · exact ⟨r.fa, _, r.o, fun _ z => by cases z⟩
    · exact ⟨r.fl, _, r.m, fun _ z => by cases z⟩
  mov := fun F H F' H' ⟨vf, ws, fnd, q, r⟩ ex h1 h2 => ⟨vf, ws, fnd, q, by rw [h1 a (.inl rfl)]; exact r.o, ex.dp _ _ r.f, r.d, r.z, by rw [h1 l (.inr rfl)]; exact r.m, ex.dps _ _ r.w, h2 a (.inl rfl), h2 l (.inr rfl), r.ne⟩
theorem rd_names {m : Str} {vf : V} {q : Nat} {l : Addr} (h : m ∉ (["found", "at", "marks"] : List Str)) : (rdF3 vf q l).lookup m = none := by
  have h1 : (m == ("found" : Str)) = false := beq_eq_false_iff_ne.mpr fun z => h (by rw [z]; exact List.mem_cons_self)
  have h2 : (m == ("at" : Str)) = false := beq_eq_false_iff_ne.mpr fun z => h (by rw [z]; exact List.mem_cons_of_mem _ List.mem_cons_self)
  have h3 : (m == ("marks" : Str)) = false := beq_eq_false_iff_ne.mpr fun z => h (by rw [z]; exact List.mem_cons_of_mem _ (List.mem_cons_of_mem _ List.mem_cons_self))
  unfold rdF3
  rw [List.lookup_cons, h1, List.lookup_cons, h2, List.lookup_cons, h3]
  rfl
def rdFm (K : PySem.W.Frag) (C : Addr) : Fam K C where
  ι := Addr × Addr × Addr
  α := RdS
  ad := fun i => i.1
  L := fun i => rdL i.1 i.2.2
  Γ := fun i s => rdG K C i.1 i.2.1 i.2.2 s
  names := ["found", "at", "marks"]
  ins := fun i s F H ⟨vf, ws, fnd, q, r⟩ => ⟨i.2.1, _, r.o, fun m h => rd_names h⟩
def txV : PyData → Option Str
  | .str s => some s
  | _ => none
def peekS : List Tkn → Option Str
  | [] => some ""
  | t :: _ => txV t.v
theorem txV_eq {d : PyData} {x : Str} (h : txV d = some x) : d = .str x := by
  cases d <;> first | (cases h; rfl) | cases h
section
variable {K : PySem.W.Frag} {C : Addr} {Tb : List Addr} {F0 H0 Fl : Hp} {G : List Sl} {i : (rdFm K C).ι} {s : RdS}
theorem e_rdf {vf : V} {ws : List V} {fnd : List Tkn} {q : Nat} (r : RdΨ K C i.1 i.2.1 i.2.2 s F0 H0 vf ws fnd q) (h : G[0]? = some (.raw (.ref ((rdFm K C).ad i)))) (hC : Cls K C) (hn : NoAttr K C "found") : E ⟨K, Tb, F0, H0, Fl⟩ (tFld K (tVar 0) "found") G (.list (fnd.map tokD)) := fun σ F H hh Q q' => by
  obtain ⟨o, eo, ok⟩ := hh.at_ h
  obtain rfl : o = some (.ref i.1) := ok
  exact ⟨.ref i.1, eo, i.1, C, i.2.1, _, vf, rfl, hh.st.h _ _ r.o (fun _ z => by cases z), hC, hn, rfl, q' vf F H (Stp.refl hh.st.i) (hh.st.f.dp _ _ r.f)⟩
theorem e_rda {vf : V} {ws : List V} {fnd : List Tkn} {q : Nat} (r : RdΨ K C i.1 i.2.1 i.2.2 s F0 H0 vf ws fnd q) (h : G[0]? = some (.raw (.ref ((rdFm K C).ad i)))) (hC : Cls K C) (hn : NoAttr K C "at") : E ⟨K, Tb, F0, H0, Fl⟩ (tFld K (tVar 0) "at") G (.int (q : Nat)) := fun σ F H hh Q q' => by
  obtain ⟨o, eo, ok⟩ := hh.at_ h
  obtain rfl : o = some (.ref i.1) := ok
  exact ⟨.ref i.1, eo, i.1, C, i.2.1, _, _, rfl, hh.st.h _ _ r.o (fun _ z => by cases z), hC, hn, rfl, q' _ F H (Stp.refl hh.st.i) (.int _)⟩
/-- self.at += 1 -/
theorem r_at {b : Gd} {t : Tkn} {r : List Tkn} {ms : List MkT} {tw : TS} {D : Ends} {f : Int → Int → Int} {C : Addr} {i : (rdFm b.K C).ι} (hf : ∀ x y : Int, f x y = x + y) (h : G[0]? = some (.raw (.ref ((rdFm b.K C).ad i)))) (hC : Cls b.K C) (hn : NoAttr b.K C "at")
    (k : SR b tw D G ((rdFm b.K C).Γ i (r, ms))) : SR b (tSeq (sFldAug b.K (tVar 0) (tC (.int 1)) (ipI f) "at") tw) D G ((rdFm b.K C).Γ i (t :: r, ms)) := fun σ F H hh => by
  have hp := hh.psi
  obtain ⟨vf, ws, fnd, q, p⟩ := hp
  have hh0 := hh
  obtain ⟨hL, F1, H1, Fl1, p1, s1, l1, h1⟩ := hh0
  obtain ⟨o, eo, ok⟩ := h1.at_ h
  obtain rfl : o = some (.ref i.1) := ok
  refine ⟨.ref i.1, eo, i.1, C, i.2.1, _, _, rfl, p.o, hC, hn, rfl, ?_⟩
  refine ⟨(q : Nat), 1, rfl, rfl, i.2.1, _, p.o, by show 3 < 1000; decide, ?_⟩
  have e1 : putF "at" (V.int (f (q : Nat) 1)) (rdF3 vf q i.2.2) = rdF3 vf (q + 1) i.2.2 := by
    rw [hf]
    unfold rdF3
    rw [show ((q + 1 : Nat) : Int) = (q : Int) + 1 from by omega]
    rfl
  rw [e1]
  have hq : q < fnd.length := by
    rcases Nat.lt_or_ge q fnd.length with z | z
    · exact z
    · have := p.d
      rw [List.drop_of_length_le z] at this; cases this
  have hd : fnd.drop (q + 1) = r := by
    have := p.d
    rw [List.drop_eq_getElem_cons hq] at this
    injection this
  refine k σ F _ (hh.change (Ex.refl F) (hh.st.mut (hh.1 _ (.inl rfl)) p.fa p.o fun _ z => by cases z) (fun P hP => ?_) ⟨vf, ws, fnd, q + 1, upd_same, p.f, hd, hq, ?_, p.w, p.fa, p.fl, p.ne⟩ fun a u nl e0 e2 n => ?_)
  · obtain ⟨ps, e, r⟩ := hh.tab P hP
    exact ⟨ps, by rw [upd_ne (fun z => by rw [z, p.o] at e; cases e)]; exact e, r⟩
  · rw [upd_ne (Ne.symm p.ne)]; exact p.m
  · rw [upd_ne (fun z => nl (.inl z))]; exact ⟨e2, e0⟩
/-- self.marks.append(te) -/
theorem sr_mark {b : Gd} {ts ts' : List Tkn} {ms ms' : List MkT} {m : MkT} {te : TE} {D : Ends} {C : Addr} {i : (rdFm b.K C).ι} (h : G[0]? = some (.raw (.ref ((rdFm b.K C).ad i)))) (hC : Cls b.K C) (hn : NoAttr b.K C "marks") (he : ER b te G ((rdFm b.K C).Γ i (ts, ms)) ((rdFm b.K C).Γ i (ts', ms')) (rmD m)) (hz : ms'.length < 100000)
    (k : NR b D.nx G ((rdFm b.K C).Γ i (ts', ms' ++ [m]))) : SR b (tDrop (tBM b.K "list" rAppend (tFld b.K (tVar 0) "marks") (tCons te tNil))) D G ((rdFm b.K C).Γ i (ts, ms)) := fun σ F H hh => by
  have hp := hh.psi
  obtain ⟨vf, ws, fnd, q, p⟩ := hp
  have hh0 := hh
  obtain ⟨hL, F1, H1, Fl1, p1, s1, l1, h1⟩ := hh0
  obtain ⟨o, eo, ok⟩ := h1.at_ h
  obtain rfl : o = some (.ref i.1) := ok
  refine ⟨.ref i.1, eo, i.1, C, i.2.1, _, .ref i.2.2, rfl, p.o, hC, hn, rfl, .inl ⟨rfl, ws, .inl (.inl p.m)⟩, he σ F H hh _ fun v F2 H2 x2 hh2 d2 => ?_⟩
  obtain ⟨vf2, ws2, fnd2, q2, p2⟩ := hh2.psi
  refine ⟨i.2.2, ws2, v, rfl, rfl, p2.m, Nat.lt_of_lt_of_le (by rw [dps_len p2.w, List.length_map]; exact hz) (by decide), ?_⟩
  refine k σ F2 _ (hh2.change (Ex.refl F2) (hh2.st.mut (hh2.1 _ (.inr rfl)) p2.fl p2.m fun _ z => by cases z) (fun P hP => ?_) ⟨vf2, ws2 ++ [v], fnd2, q2, ?_, p2.f, p2.d, p2.z, upd_same, ?_, p2.fa, p2.fl, p2.ne⟩ fun a u nl e0 e2 n => ?_)
  · obtain ⟨ps, e, r⟩ := hh2.tab P hP
    exact ⟨ps, by rw [upd_ne (fun z => by rw [z, p2.m] at e; cases e)]; exact e, r⟩
  · rw [upd_ne p2.ne]; exact p2.o
  · rw [List.map_append]; exact dps_app p2.w (.cons d2 .nil)
  · rw [upd_ne (fun z => nl (.inr z))]; exact ⟨e2, e0⟩
end
def R_tkr : RdS → List PyData → RdS → PyData → Prop := fun s ds s' d => ∃ (t : Tkn) (r : List Tkn) (ms : List MkT), s = (t :: r, ms) ∧ ds = [] ∧ s' = (r, ms) ∧ d = tokD t
def R_pk : RdS → List PyData → RdS → PyData → Prop := fun s ds s' d => ∃ x : Str, peekS s.1 = some x ∧ ds = [] ∧ s' = s ∧ d = .str x
theorem rt_of {b : Gd} {L : Addr → Prop} {Γ : Gst L} {Q : VK} {d : PyData} {F0 H0 Fl : Hp} (k : RtF b Γ Q d) (p : Γ.Ψ F0 H0) (s : Stp b.F0 b.H0 F0 H0) : Rt ⟨b.K, b.T, F0, H0, Fl⟩ Q d := fun v F H st hd => k v F H (s.trans st) (Gst.stp p st) hd
section
variable {P : Program} {w : World} {K : PySem.W.Frag} {mg : Str → Option Value} {base : Heap} {f C : Addr} {fd : FuncData} {Tb : List Addr} {k : Nat}
theorem ok_pk (Fn : Fun K "peek" "Reader.peek" s_Reader_peek f fd) (hM : Meth K C "peek" f) (hb : Binds K fd ["self"] []) (Z : Zb mg) (CL_Reader : Cls K C) (N1 : NoAttr K C "found") (N2 : NoAttr K C "at") :
    DW.MtOk P w K mg base 1 C "peek" ["self"] (spF K Tb (rdFm K C) R_pk) := by
  refine mt_F Fn sc_Reader_peek hM hb (fun s ds s' d h => by obtain ⟨_, _, rfl, _⟩ := h; rfl) fun cdv A outer s H Ek hr => ⟨_, (pss_cons (ps_if (pt_cmpR (uEqK K hr.units) (pe_fldK K (pv 0)) (pe_callB (uLenK K) (by rfl) Z.len (by decide +kernel) (pa_cons (pe_fldK K (pv 0)) pa_nil)) (nomark _)) (pss_one (ps_ret pe_str)) pss_nil)
      (pss_one (ps_ret (pe_ix (ix_seqK K) (pe_ix (ix_seqK K) (pe_fldK K (pv 0)) (pe_fldK K (pv 0)) (fun _ _ => rfl)) pe_int (fun _ _ => rfl))))),  fun i s ds s' d F0 H0 Q r rt => ?_⟩
  obtain ⟨x, hx, rfl, rfl, rfl⟩ := r
  refine sr_S fun F1 H1 Fl p s1 => ?_
  have rt2 := rt_of (Fl := Fl) rt p s1
  obtain ⟨vf, ws, fnd, q, p⟩ := p
  have lm : ((fnd.map tokD).length : Int) = (fnd.length : Int) := by rw [List.length_map]
  refine q_if (b := decide ((q : Int) = (fnd.length : Int))) (t_test (by rw [← lm]; exact b_op (E.b (e_rda p rfl CL_Reader N2)) (E.b (b_cb (ab_cons (E.b (e_rdf p rfl CL_Reader N1)) ab_nil) len_l rfl)) eq_i rfl)) (fun z => ?_) fun z => s_next (n_go ?_)
  · have z : q = fnd.length := by have := of_decide_eq_true z; omega
    have e := p.d
    rw [z, List.drop_length] at e
    rw [← e] at hx
    cases hx
    exact s_ret e_str rt2
  · have z : q ≠ fnd.length := fun h => of_decide_eq_false z (by rw [h])
    have hq : q < fnd.length := Nat.lt_of_le_of_ne p.z z
    have e := p.d
    rw [List.drop_eq_getElem_cons hq] at e
    rw [← e] at hx
    have hx := txV_eq (show txV (fnd[q]).v = some x from hx)
    refine s_ret (e_op (x := tokD fnd[q]) (e_op (x := .list (fnd.map tokD)) (e_rdf p rfl CL_Reader N1) (e_rda p rfl CL_Reader N2) (ix_l ?_)) e_int (ix_t ?_)) rt2
    · rw [at_n0 (by rw [List.length_map]; exact hq), List.getElem?_map, List.getElem?_eq_getElem hq]; rfl
    · rw [← hx]; rfl
theorem ok_tkr (Fn : Fun K "take" "Reader.take" s_Reader_take f fd) (hM : Meth K C "take" f) (hb : Binds K fd ["self"] []) (Z : Zb mg) (CL_Reader : Cls K C) (N1 : NoAttr K C "found") (N2 : NoAttr K C "at") :
    DW.MtOk P w K mg base 1 C "take" ["self"] (spF K Tb (rdFm K C) R_tkr) := by
  refine mt_F Fn sc_Reader_take hM hb (fun s ds s' d h => by obtain ⟨_, _, _, _, rfl, _⟩ := h; rfl) fun cdv A outer s H Ek hr => ⟨_, (pss_cons (ps_set (i := 1) sc_Reader_take.nd rfl (by first | exact .inl rfl | exact .inr rfl) (pe_ix (ix_seqK K) (pe_fldK K (pv 0)) (pe_fldK K (pv 0)) (fun _ _ => rfl)))
      (pss_cons (ps_augF K (pv 0) pe_int ip_add)
      (pss_one (ps_ret (pv 1))))),  fun i s ds s' d F0 H0 Q r rt => ?_⟩
  obtain ⟨t, r, ms, rfl, rfl, rfl, rfl⟩ := r
  show SR _ _ _ [.raw (.ref ((rdFm K C).ad i)), .un] _
  refine r_asg (Γ' := (rdFm K C).Γ i (t :: r, ms)) (d := tokD t) (er_E fun F1 H1 Fl p => ?_) ?_
  · obtain ⟨vf, ws, fnd, q, p⟩ := p
    refine e_op (x := .list (fnd.map tokD)) (e_rdf p rfl CL_Reader N1) (e_rda p rfl CL_Reader N2) (ix_l ?_)
    have hq : q < fnd.length := by
      rcases Nat.lt_or_ge q fnd.length with z | z
      · exact z
      · have := p.d
        rw [List.drop_of_length_le z] at this; cases this
    have e := p.d
    rw [List.drop_eq_getElem_cons hq] at e
    injection e with e _
    rw [at_n0 (by rw [List.length_map]; exact hq), List.getElem?_map, List.getElem?_eq_getElem hq, e]; rfl
  · show SR _ _ _ [.raw (.ref ((rdFm K C).ad i)), .fz (tokD t)] _
    refine r_at (fun _ _ => rfl) rfl CL_Reader N2 ?_
    exact sr_ret (er_E fun F1 H1 Fl p => e_var rfl) rt
end
/-! ### what the reader reads: lists, matchers -/
def SkC (ts ts' : List Tkn) : Prop := (∃ c : Tkn, ts = c :: ts' ∧ c.v = .str ",") ∨ (ts' = ts ∧ ∃ x, peekS ts = some x ∧ x ≠ ",")
theorem skc_len {ts ts' : List Tkn} (h : SkC ts ts') : ts'.length ≤ ts.length := by
  rcases h with ⟨c, rfl, _⟩ | ⟨rfl, _⟩
  · rw [List.length_cons]; omega
  · exact Nat.le_refl _
inductive RdLi : List Tkn → List Str → List Tkn → Prop
  | stop (c : Tkn) (r : List Tkn) (h : c.v = .str ")") : RdLi (c :: r) [] (c :: r)
  | more (t : Tkn) (s : Str) (ts ts' : List Tkn) (ss : List Str) (r : List Tkn) (h : t.v = .str s) (n : s ≠ ")") (k : SkC ts ts') (l : RdLi ts' ss r) : RdLi (t :: ts) (s :: ss) r
def RdLs (ts : List Tkn) (ss : List Str) (r : List Tkn) : Prop := ∃ (o : Tkn) (ts1 : List Tkn) (c : Tkn), ts = o :: ts1 ∧ RdLi ts1 ss (c :: r)
inductive RdM1 : List Tkn → Mt → List Tkn → Prop
  | eq (a b c : Tkn) (r : List Tkn) (nm tst v : Str) (ha : a.v = .str nm) (hb : b.v = .str tst) (ht : tst = "=" ∨ tst = "!=") (hc : c.v = .str v) : RdM1 (a :: b :: c :: r) (nm, [v], decide (tst = "=")) r
  | inn (a b : Tkn) (ts : List Tkn) (nm : Str) (vs : List Str) (r : List Tkn) (ha : a.v = .str nm) (hb : b.v = .str "in") (hl : RdLs ts vs r) : RdM1 (a :: b :: ts) (nm, vs, true) r
  | nin (a b c : Tkn) (ts : List Tkn) (nm : Str) (vs : List Str) (r : List Tkn) (ha : a.v = .str nm) (hb : b.v = .str "not") (hl : RdLs ts vs r) : RdM1 (a :: b :: c :: ts) (nm, vs, false) r
inductive RdMl : List Tkn → List Mt → List Tkn → Prop
  | stop (c : Tkn) (r : List Tkn) (h : c.v = .str "}") : RdMl (c :: r) [] (c :: r)
  | more (ts ts1 ts2 : List Tkn) (m : Mt) (ms : List Mt) (r : List Tkn) (x : Str) (hx : peekS ts = some x) (n : x ≠ "}") (h : RdM1 ts m ts1) (k : SkC ts1 ts2) (l : RdMl ts2 ms r) : RdMl ts (m :: ms) r
def RdMs (ts : List Tkn) (ml : List Mt) (r : List Tkn) : Prop := (ml = [] ∧ r = ts ∧ ∃ x, peekS ts = some x ∧ x ≠ "{") ∨ ∃ (o : Tkn) (ts1 : List Tkn) (c : Tkn), ts = o :: ts1 ∧ o.v = .str "{" ∧ RdMl ts1 ml (c :: r)
theorem rdli_pk {ts : List Tkn} {ss : List Str} {r : List Tkn} (h : RdLi ts ss r) : ∃ x, peekS ts = some x ∧ ((x = ")" ∧ ss = [] ∧ r = ts) ∨ (x ≠ ")" ∧ ∃ (t : Tkn) (ts1 : List Tkn) (ss1 : List Str) (ts2 : List Tkn), ts = t :: ts1 ∧ t.v = .str x ∧ ss = x :: ss1 ∧ SkC ts1 ts2 ∧ RdLi ts2 ss1 r)) := by
  cases h with
  | stop c r h => exact ⟨")", by show txV c.v = _; rw [h]; rfl, .inl ⟨rfl, rfl, rfl⟩⟩
  | more t s ts ts' ss r h n k l => exact ⟨s, by show txV t.v = _; rw [h]; rfl, .inr ⟨n, t, ts, ss, ts', rfl, h, rfl, k, l⟩⟩
theorem rdml_pk {ts : List Tkn} {ms : List Mt} {r : List Tkn} (h : RdMl ts ms r) : ∃ x, peekS ts = some x ∧ ((x = "}" ∧ ms = [] ∧ r = ts) ∨ (x ≠ "}" ∧ ∃ (m : Mt) (ms1 : List Mt) (ts1 ts2 : List Tkn), ms = m :: ms1 ∧ RdM1 ts m ts1 ∧ SkC ts1 ts2 ∧ RdMl ts2 ms1 r)) := by
  cases h with
  | stop c r h => exact ⟨"}", by show txV c.v = _; rw [h]; rfl, .inl ⟨rfl, rfl, rfl⟩⟩
  | more ts ts1 ts2 m ms r x hx n h k l => exact ⟨x, hx, .inr ⟨n, m, ms, ts1, ts2, rfl, h, k, l⟩⟩
theorem rdli_len : ∀ {ts : List Tkn} {ss : List Str} {r : List Tkn}, RdLi ts ss r → ss.length + r.length ≤ ts.length
  | _, _, _, .stop c r h => by rw [List.length_nil]; omega
  | _, _, _, .more t s ts ts' ss r h n k l => by
    have := rdli_len l
    have := skc_len k
    rw [List.length_cons, List.length_cons]; omega
theorem rdls_len {ts : List Tkn} {ss : List Str} {r : List Tkn} (h : RdLs ts ss r) : ss.length + r.length + 2 ≤ ts.length := by
  obtain ⟨o, ts1, c, rfl, h⟩ := h
  have := rdli_len h
  rw [List.length_cons] at this ⊢
  omega
theorem rdm1_len {ts : List Tkn} {m : Mt} {r : List Tkn} (h : RdM1 ts m r) : m.2.1.length + r.length + 2 ≤ ts.length := by
  cases h with
  | eq a b c r nm tst v ha hb ht hc => show 1 + r.length + 2 ≤ r.length + 1 + 1 + 1; omega
  | inn a b ts nm vs r ha hb hl =>
    have := rdls_len hl
    show vs.length + r.length + 2 ≤ ts.length + 1 + 1; omega
  | nin a b c ts nm vs r ha hb hl =>
    have := rdls_len hl
    show vs.length + r.length + 2 ≤ ts.length + 1 + 1 + 1; omega
theorem rdm1_cs {ts : List Tkn} {m : Mt} {r : List Tkn} (h : RdM1 ts m r) : ∃ (a b : Tkn) (ts2 : List Tkn) (nm tst : Str), ts = a :: b :: ts2 ∧ a.v = .str nm ∧ b.v = .str tst ∧
    (((tst = "=" ∨ tst = "!=") ∧ ∃ (c : Tkn) (v : Str), ts2 = c :: r ∧ c.v = .str v ∧ m = (nm, [v], decide (tst = "="))) ∨ (tst = "in" ∧ ∃ vs, m = (nm, vs, true) ∧ RdLs ts2 vs r) ∨ (tst = "not" ∧ ∃ (c : Tkn) (ts3 : List Tkn) (vs : List Str), ts2 = c :: ts3 ∧ m = (nm, vs, false) ∧ RdLs ts3 vs r)) := by
  cases h with
  | eq a b c r nm tst v ha hb ht hc => exact ⟨a, b, _, nm, tst, rfl, ha, hb, .inl ⟨ht, c, v, rfl, hc, rfl⟩⟩
  | inn a b ts nm vs r ha hb hl => exact ⟨a, b, _, nm, "in", rfl, ha, hb, .inr (.inl ⟨rfl, vs, rfl, hl⟩)⟩
  | nin a b c ts nm vs r ha hb hl => exact ⟨a, b, _, nm, "not", rfl, ha, hb, .inr (.inr ⟨rfl, c, ts, vs, rfl, rfl, hl⟩)⟩
theorem rdml_len : ∀ {ts : List Tkn} {ms : List Mt} {r : List Tkn}, RdMl ts ms r → ms.length + r.length ≤ ts.length
  | _, _, _, .stop c r h => by rw [List.length_nil]; omega
  | _, _, _, .more ts ts1 ts2 m ms r x hx n h k l => by
    have := rdml_len l
    have := skc_len k
    have := rdm1_len h
    rw [List.length_cons]; omega
theorem rdms_len {ts : List Tkn} {ms : List Mt} {r : List Tkn} (h : RdMs ts ms r) : ms.length + r.length ≤ ts.length := by
  rcases h with ⟨rfl, rfl, _⟩ | ⟨o, ts1, c, rfl, _, h⟩
  · rw [List.length_nil]; omega
  · have := rdml_len h
    rw [List.length_cons] at this ⊢
    omega
section
variable {b : Gd} {C : Addr} {i : (rdFm b.K C).ι} {G : List Sl} {ts r : List Tkn} {ms : List MkT} {t : Tkn} {Ek : XK} {x : Str}
theorem rd_no {m : Str} (h : m ∉ (["found", "at", "marks"] : List Str)) : m ∉ (rdFm b.K C).names := h
theorem er_tk (h : G[0]? = some (.raw (.ref ((rdFm b.K C).ad i)))) : ER b (tMeth C "take" (spF b.K b.T (rdFm b.K C) R_tkr) [] Ek (tVar 0) tNil) G ((rdFm b.K C).Γ i (t :: r, ms)) ((rdFm b.K C).Γ i (r, ms)) (tokD t) :=
  er_meth (s1 := (t :: r, ms)) h ar_nil (rd_no (by decide)) ⟨t, r, ms, rfl, rfl, rfl, rfl⟩
theorem er_pk (h : G[0]? = some (.raw (.ref ((rdFm b.K C).ad i)))) (hx : peekS ts = some x) : ER b (tMeth C "peek" (spF b.K b.T (rdFm b.K C) R_pk) [] Ek (tVar 0) tNil) G ((rdFm b.K C).Γ i (ts, ms)) ((rdFm b.K C).Γ i (ts, ms)) (.str x) :=
  er_meth (s1 := (ts, ms)) h ar_nil (rd_no (by decide)) ⟨x, hx, rfl, rfl, rfl⟩
theorem er_tk1 (h : G[0]? = some (.raw (.ref ((rdFm b.K C).ad i)))) {d : PyData} (hv : t.v = d) : ER b (tOp (rIx b.K) (tMeth C "take" (spF b.K b.T (rdFm b.K C) R_tkr) [] Ek (tVar 0) tNil) (tC (.int 1))) G ((rdFm b.K C).Γ i (t :: r, ms)) ((rdFm b.K C).Γ i (r, ms)) d :=
  er_opR (er_tk h) (er_E fun _ _ _ _ => e_int) (ix_t (by rw [← hv]; rfl))
end
section
variable {P : Program} {w : World} {K : PySem.W.Frag} {mg : Str → Option Value} {base : Heap} {f C : Addr} {fd : FuncData} {Tb : List Addr} {k : Nat}
def R_rls : RdS → List PyData → RdS → PyData → Prop := fun s ds s' d => ∃ (ts : List Tkn) (ss : List Str) (r : List Tkn) (ms : List MkT), s = (ts, ms) ∧ ds = [] ∧ s' = (r, ms) ∧ RdLs ts ss r ∧ ts.length ≤ 20000 ∧ d = tsD ss
theorem ok_rls (Fn : Fun K "read_list" "Reader.read_list" s_Reader_read_list f fd) (hM : Meth K C "read_list" f) (hb : Binds K fd ["self"] []) (Z : Zb mg) (CL_Reader : Cls K C)
    (M_Reader_take : DW.MtOk P w K mg base 1 C "take" ["self"] (spF K Tb (rdFm K C) R_tkr)) (M_Reader_peek : DW.MtOk P w K mg base 1 C "peek" ["self"] (spF K Tb (rdFm K C) R_pk)) :
    DW.MtOk P w K mg base 2 C "read_list" ["self"] (spF K Tb (rdFm K C) R_rls) := by
  refine mt_F Fn sc_Reader_read_list hM hb (fun s ds s' d h => by obtain ⟨_, _, _, _, _, rfl, _⟩ := h; rfl) fun cdv A outer s H Ek hr => ⟨_, (pss_cons (ps_set (i := 1) sc_Reader_read_list.nd rfl (by first | exact .inl rfl | exact .inr rfl) (pe_lst pa_nil))
      (pss_cons (ps_expr (pe_mtM0 M_Reader_take CL_Reader hr (by first | decide | exact Nat.le_refl _ | omega) (pv 0)))
      (pss_cons (ps_while PassesOwn.never (pt_cmpR (uNeK K hr.units) (pe_mtM0 M_Reader_peek CL_Reader hr (by first | decide | exact Nat.le_refl _ | omega) (pv 0)) pe_str (nomark _)) (pss_cons (ps_expr (pe_bm PySem.F.plainAttrs_list PySem.F.slot_list_append PySem.F.type_list_append mt_append (pv 1) (pa_cons (pe_ix (ix_seqK K) (pe_mtM0 M_Reader_take CL_Reader hr (by first | decide | exact Nat.le_refl _ | omega) (pv 0)) pe_int (fun _ _ => rfl)) pa_nil)))
      (pss_one (ps_if (pt_cmpR (uEqK K hr.units) (pe_mtM0 M_Reader_peek CL_Reader hr (by first | decide | exact Nat.le_refl _ | omega) (pv 0)) pe_str (nomark _)) (pss_one (ps_expr (pe_mtM0 M_Reader_take CL_Reader hr (by first | decide | exact Nat.le_refl _ | omega) (pv 0)))) pss_nil))))
      (pss_cons (ps_expr (pe_mtM0 M_Reader_take CL_Reader hr (by first | decide | exact Nat.le_refl _ | omega) (pv 0)))
      (pss_one (ps_ret (pe_callTy (uTupK K) (by rfl) Z.tuple (by decide +kernel) (pa_cons (pv 1) pa_nil)))))))),  fun i s ds s' d F0 H0 Q r rt => ?_⟩
  obtain ⟨ts, ss, r, ms, rfl, rfl, rfl, ⟨o, ts1, c, rfl, hl⟩, hz, rfl⟩ := r
  show SR _ _ _ [.raw (.ref ((rdFm K C).ad i)), .un] _
  refine r_asgL (ds := []) (fun F1 H1 Fl p => el_lst a_nil (by decide)) ?_
  show SR _ _ _ [.raw (.ref ((rdFm K C).ad i)), .ow []] _
  refine r_expr (er_tk rfl) ?_
  rw [List.length_cons] at hz
  refine r_while (α := List Str × List Str × List Tkn) (fun a => [.raw (.ref ((rdFm K C).ad i)), .ow (a.1.map .str)]) (fun a => (rdFm K C).Γ i (a.2.2, ms)) (fun a => RdLi a.2.2 a.2.1 (c :: r) ∧ a.1 ++ a.2.1 = ss ∧ a.1.length + a.2.2.length ≤ 20000) (fun a => a.2.2.length) ([], ss, ts1) ⟨hl, rfl, by show 0 + ts1.length ≤ 20000; omega⟩ rfl (Wk.refl _) ?_
  rintro ⟨dn, rs, ts⟩ ⟨h1, h2, h3⟩
  have h1 : RdLi ts rs (c :: r) := h1
  have h2 : dn ++ rs = ss := h2
  have h3 : dn.length + ts.length ≤ 20000 := h3
  obtain ⟨x, hx, h4⟩ := rdli_pk h1
  refine ⟨!decide (x = ")"), (rdFm K C).Γ i (ts, ms), tr_test (er_op (er_pk rfl hx) (er_E fun _ _ _ _ => e_str) ne_s rfl), fun z => ?_, fun z => ?_⟩
  · rcases h4 with ⟨rfl, _⟩ | ⟨n, t, ts0, ss1, ts2, rfl, hv, rfl, hk, hl2⟩
    · rw [decide_eq_true rfl] at z; cases z
    have lc : (t :: ts0).length = ts0.length + 1 := rfl
    have l2 := skc_len hk
    show SR _ _ _ [.raw (.ref ((rdFm K C).ad i)), .ow (dn.map .str)] _
    refine r_app (i := 1) (ds := dn.map .str) rfl (er_tk1 rfl hv) (by rw [List.length_map]; omega) ?_
    show SR _ _ _ [.raw (.ref ((rdFm K C).ad i)), .ow (dn.map .str ++ [.str x])] _
    have w0 : Wk [.raw (.ref ((rdFm K C).ad i)), .ow (dn.map .str ++ [.str x])] [.raw (.ref ((rdFm K C).ad i)), .ow ((dn ++ [x]).map .str)] := by rw [List.map_append]; exact Wk.refl _
    have fin : RdLi ts2 ss1 (c :: r) ∧ (dn ++ [x]) ++ ss1 = ss ∧ (dn ++ [x]).length + ts2.length ≤ 20000 := ⟨hl2, by rw [List.append_assoc]; exact h2, by rw [List.length_append, List.length_singleton]; omega⟩
    have lt : ts2.length < (t :: ts0).length := by rw [List.length_cons]; omega
    rcases hk with ⟨cm, rfl, hc⟩ | ⟨rfl, y, hy, ny⟩
    · refine sr_if (c := decide ((",": Str) = ",")) (tr_test (er_op (er_pk rfl (by show txV cm.v = _; rw [hc]; rfl)) (er_E fun _ _ _ _ => e_str) eq_s rfl)) (fun z => ?_) fun z => absurd rfl (of_decide_eq_false z)
      exact sr_expr (er_tk rfl) (nr_end (a := (dn ++ [x], ss1, ts2)) ⟨fin, lt⟩ w0)
    · refine sr_if (c := decide (y = ",")) (tr_test (er_op (er_pk rfl hy) (er_E fun _ _ _ _ => e_str) eq_s rfl)) (fun z => absurd (of_decide_eq_true z) ny) fun z => ?_
      exact sr_next (nr_end (a := (dn ++ [x], ss1, ts2)) ⟨fin, lt⟩ w0)
  · rcases h4 with ⟨rfl, rfl, er⟩ | ⟨n, _⟩
    · subst er
      rw [List.append_nil] at h2
      subst h2
      refine r_expr (er_tk rfl) ?_
      exact sr_ret (er_E fun F1 H1 Fl p => e_tupO rfl) rt
    · rw [decide_eq_false n] at z; cases z
def R_m1 : RdS → List PyData → RdS → PyData → Prop := fun s ds s' d => ∃ (ts : List Tkn) (m : Mt) (r : List Tkn) (ms : List MkT), s = (ts, ms) ∧ ds = [] ∧ s' = (r, ms) ∧ RdM1 ts m r ∧ ts.length ≤ 20000 ∧ d = mtD m
theorem ok_rm1 (Fn : Fun K "read_matcher" "Reader.read_matcher" s_Reader_read_matcher f fd) (hM : Meth K C "read_matcher" f) (hb : Binds K fd ["self"] []) (Z : Zb mg) (CL_Reader : Cls K C)
    (M_Reader_take : DW.MtOk P w K mg base 1 C "take" ["self"] (spF K Tb (rdFm K C) R_tkr)) (M_Reader_read_list : DW.MtOk P w K mg base 2 C "read_list" ["self"] (spF K Tb (rdFm K C) R_rls)) :
    DW.MtOk P w K mg base 3 C "read_matcher" ["self"] (spF K Tb (rdFm K C) R_m1) := by
  refine mt_F Fn sc_Reader_read_matcher hM hb (fun s ds s' d h => by obtain ⟨_, _, _, _, _, rfl, _⟩ := h; rfl) fun cdv A outer s H Ek hr => ⟨_, (pss_cons (ps_set (i := 1) sc_Reader_read_matcher.nd rfl (by first | exact .inl rfl | exact .inr rfl) (pe_ix (ix_seqK K) (pe_mtM0 M_Reader_take CL_Reader hr (by first | decide | exact Nat.le_refl _ | omega) (pv 0)) pe_int (fun _ _ => rfl)))
      (pss_cons (ps_set (i := 2) sc_Reader_read_matcher.nd rfl (by first | exact .inl rfl | exact .inr rfl) (pe_ix (ix_seqK K) (pe_mtM0 M_Reader_take CL_Reader hr (by first | decide | exact Nat.le_refl _ | omega) (pv 0)) pe_int (fun _ _ => rfl)))
      (pss_cons (ps_if (pt_cmpR (uInK K) (pv 2) (pe_tup (pa_cons pe_str (pa_cons pe_str pa_nil))) (by rfl)) (pss_one (ps_ret (pe_tup (pa_cons (pv 1) (pa_cons (pe_tup (pa_cons (pe_ix (ix_seqK K) (pe_mtM0 M_Reader_take CL_Reader hr (by first | decide | exact Nat.le_refl _ | omega) (pv 0)) pe_int (fun _ _ => rfl)) pa_nil)) (pa_cons (pe_cmpR (uEqK K hr.units) (pv 2) pe_str (nomark _)) pa_nil)))))) pss_nil)
      (Evl.pss_cut (ps_if (pt_cmpR (uEqK K hr.units) (pv 2) pe_str (nomark _)) (pss_one (ps_expr (pe_mtM0 M_Reader_take CL_Reader hr (by first | decide | exact Nat.le_refl _ | omega) (pv 0)))) pss_nil)
      (pss_one (ps_ret (pe_tup (pa_cons (pv 1) (pa_cons (pe_mtM0 M_Reader_read_list CL_Reader hr (by first | decide | exact Nat.le_refl _ | omega) (pv 0)) (pa_cons (pe_cmpR (uEqK K hr.units) (pv 2) pe_str (nomark _)) pa_nil)))))))))),  fun i s ds s' d F0 H0 Q r rt => ?_⟩
  obtain ⟨ts, m, r, ms, rfl, rfl, rfl, h, hz, rfl⟩ := r
  show SR _ _ _ [.raw (.ref ((rdFm K C).ad i)), .un, .un] _
  obtain ⟨a, b, ts2, nm, tst, rfl, ha, hb, h1⟩ := rdm1_cs h
  have hz : ts2.length ≤ 20000 := by
    have lc : (a :: b :: ts2).length = ts2.length + 2 := rfl
    omega
  refine r_asg (i := 1) (d := .str nm) (er_tk1 rfl ha) ?_
  refine r_asg (i := 2) (d := .str tst) (er_tk1 rfl hb) ?_
  show SR _ _ _ [.raw (.ref ((rdFm K C).ad i)), .fz (.str nm), .fz (.str tst)] _
  refine r_if (c := decide (tst ∈ (["=", "!="] : List Str))) (tr_T fun F1 H1 Fl p => t_test (by rw [← inD_str]; exact b_op (E.b (e_var rfl)) (E.b (e_tup (a_cons e_str (a_cons e_str a_nil)) (by decide))) (in_t rfl rfl) rfl)) (fun z => ?_) fun z => sr_next (nr_go ?_)
  · have z : tst = "=" ∨ tst = "!=" := by simpa using of_decide_eq_true z
    obtain ⟨c, v, rfl, hc, rfl⟩ : ∃ (c : Tkn) (v : Str), ts2 = c :: r ∧ c.v = .str v ∧ m = (nm, [v], decide (tst = "=")) := by
      rcases h1 with ⟨_, h⟩ | ⟨rfl, _⟩ | ⟨rfl, _⟩
      · exact h
      · exact absurd z (by decide)
      · exact absurd z (by decide)
    exact sr_ret (er_tup (ar_cons (er_E fun _ _ _ _ => e_var rfl) (ar_cons (er_tup (ar_cons (er_tk1 rfl hc) ar_nil) (Nat.le_of_ble_eq_true rfl)) (ar_cons (er_E fun _ _ _ _ => b_op (E.b (e_var rfl)) (E.b e_str) eq_s rfl) ar_nil))) (Nat.le_of_ble_eq_true rfl)) rt
  · have z : ¬ (tst = "=" ∨ tst = "!=") := by simpa using of_decide_eq_false z
    obtain ⟨ts3, vs, hl, l3, em, sk⟩ : ∃ (ts3 : List Tkn) (vs : List Str), RdLs ts3 vs r ∧ ts3.length ≤ 20000 ∧ m = (nm, vs, decide (tst = "in")) ∧ ((tst ≠ "not" ∧ ts3 = ts2) ∨ (tst = "not" ∧ ∃ c, ts2 = c :: ts3)) := by
      rcases h1 with ⟨h, _⟩ | ⟨rfl, vs, e, hl⟩ | ⟨rfl, c, ts3, vs, rfl, e, hl⟩
      · exact absurd h z
      · exact ⟨ts2, vs, hl, hz, by rw [e, decide_eq_true rfl], .inl ⟨by decide, rfl⟩⟩
      · have lc : (c :: ts3).length = ts3.length + 1 := rfl
        exact ⟨ts3, vs, hl, by omega, by rw [e, decide_eq_false (by decide)], .inr ⟨rfl, c, rfl⟩⟩
    subst em
    refine sr_cut (α := Unit) (fun _ => [.raw (.ref ((rdFm K C).ad i)), .fz (.str nm), .fz (.str tst)]) (fun _ => (rdFm K C).Γ i (ts3, ms)) (fun _ => True) ?_ fun _ _ => ?_
    · rcases sk with ⟨n, rfl⟩ | ⟨e, c, rfl⟩
      · exact sr_if (c := decide (tst = "not")) (tr_T fun _ _ _ _ => t_test (b_op (E.b (e_var rfl)) (E.b e_str) eq_s rfl)) (fun z => absurd (of_decide_eq_true z) n) fun z => sr_next (nr_end () trivial (Wk.refl _))
      · exact sr_if (c := decide (tst = "not")) (tr_T fun _ _ _ _ => t_test (b_op (E.b (e_var rfl)) (E.b e_str) eq_s rfl)) (fun z => sr_expr (er_tk rfl) (nr_end () trivial (Wk.refl _))) fun z => absurd e (of_decide_eq_false z)
    · exact sr_ret (er_tup (ar_cons (er_E fun _ _ _ _ => e_var rfl) (ar_cons (er_meth (s1 := (ts3, ms)) (s' := (r, ms)) (R := R_rls) rfl ar_nil (rd_no (b := ⟨K, Tb, F0, H0, F0⟩) (by decide)) ⟨ts3, vs, r, ms, rfl, rfl, rfl, hl, l3, rfl⟩) (ar_cons (er_E fun _ _ _ _ => b_op (E.b (e_var rfl)) (E.b e_str) eq_s rfl) ar_nil))) (Nat.le_of_ble_eq_true rfl)) rt
def R_rms : RdS → List PyData → RdS → PyData → Prop := fun s ds s' d => ∃ (ts : List Tkn) (ml : List Mt) (r : List Tkn) (ms : List MkT), s = (ts, ms) ∧ ds = [] ∧ s' = (r, ms) ∧ RdMs ts ml r ∧ ts.length ≤ 20000 ∧ d = msD ml
theorem ok_rms (Fn : Fun K "read_matchers" "Reader.read_matchers" s_Reader_read_matchers f fd) (hM : Meth K C "read_matchers" f) (hb : Binds K fd ["self"] []) (Z : Zb mg) (CL_Reader : Cls K C)
    (M_Reader_take : DW.MtOk P w K mg base 1 C "take" ["self"] (spF K Tb (rdFm K C) R_tkr)) (M_Reader_peek : DW.MtOk P w K mg base 1 C "peek" ["self"] (spF K Tb (rdFm K C) R_pk)) (M_Reader_read_matcher : DW.MtOk P w K mg base 3 C "read_matcher" ["self"] (spF K Tb (rdFm K C) R_m1)) :
    DW.MtOk P w K mg base 4 C "read_matchers" ["self"] (spF K Tb (rdFm K C) R_rms) := by
  refine mt_F Fn sc_Reader_read_matchers hM hb (fun s ds s' d h => by obtain ⟨_, _, _, _, _, rfl, _⟩ := h; rfl) fun cdv A outer s H Ek hr => ⟨_, (pss_cons (ps_set (i := 1) sc_Reader_read_matchers.nd rfl (by first | exact .inl rfl | exact .inr rfl) (pe_lst pa_nil))
      (Evl.pss_cut (ps_if (pt_cmpR (uEqK K hr.units) (pe_mtM0 M_Reader_peek CL_Reader hr (by first | decide | exact Nat.le_refl _ | omega) (pv 0)) pe_str (nomark _)) (pss_cons (ps_expr (pe_mtM0 M_Reader_take CL_Reader hr (by first | decide | exact Nat.le_refl _ | omega) (pv 0)))
      (pss_cons (ps_while PassesOwn.never (pt_cmpR (uNeK K hr.units) (pe_mtM0 M_Reader_peek CL_Reader hr (by first | decide | exact Nat.le_refl _ | omega) (pv 0)) pe_str (nomark _)) (pss_cons (ps_expr (pe_bm PySem.F.plainAttrs_list PySem.F.slot_list_append PySem.F.type_list_append mt_append (pv 1) (pa_cons (pe_mtM0 M_Reader_read_matcher CL_Reader hr (by first | decide | exact Nat.le_refl _ | omega) (pv 0)) pa_nil)))
      (pss_one (ps_if (pt_cmpR (uEqK K hr.units) (pe_mtM0 M_Reader_peek CL_Reader hr (by first | decide | exact Nat.le_refl _ | omega) (pv 0)) pe_str (nomark _)) (pss_one (ps_expr (pe_mtM0 M_Reader_take CL_Reader hr (by first | decide | exact Nat.le_refl _ | omega) (pv 0)))) pss_nil))))
      (pss_one (ps_expr (pe_mtM0 M_Reader_take CL_Reader hr (by first | decide | exact Nat.le_refl _ | omega) (pv 0)))))) pss_nil)
      (pss_one (ps_ret (pe_callTy (uTupK K) (by rfl) Z.tuple (by decide +kernel) (pa_cons (pv 1) pa_nil)))))),  fun i s ds s' d F0 H0 Q r rt => ?_⟩
  obtain ⟨ts, ml, r, ms, rfl, rfl, rfl, h, hz, rfl⟩ := r
  show SR _ _ _ [.raw (.ref ((rdFm K C).ad i)), .un] _
  refine r_asgL (ds := []) (fun F1 H1 Fl p => el_lst a_nil (by decide)) ?_
  show SR _ _ _ [.raw (.ref ((rdFm K C).ad i)), .ow []] _
  refine sr_cut (α := Unit) (fun _ => [.raw (.ref ((rdFm K C).ad i)), .ow (ml.map mtD)]) (fun _ => (rdFm K C).Γ i (r, ms)) (fun _ => True) ?_ fun _ _ => sr_ret (er_E fun F1 H1 Fl p => e_tupO rfl) rt
  rcases h with ⟨rfl, rfl, x, hx, nx⟩ | ⟨o, ts1, c, rfl, ho, hl⟩
  · exact sr_if (c := decide (x = "{")) (tr_test (er_op (er_pk rfl hx) (er_E fun _ _ _ _ => e_str) eq_s rfl)) (fun z => absurd (of_decide_eq_true z) nx) fun z => sr_next (nr_end () trivial (Wk.refl _))
  refine sr_if (c := decide (("{" : Str) = "{")) (tr_test (er_op (er_pk rfl (by show txV o.v = _; rw [ho]; rfl)) (er_E fun _ _ _ _ => e_str) eq_s rfl)) (fun z => ?_) fun z => absurd rfl (of_decide_eq_false z)
  refine r_expr (er_tk rfl) ?_
  rw [List.length_cons] at hz
  refine r_while (α := List Mt × List Mt × List Tkn) (fun a => [.raw (.ref ((rdFm K C).ad i)), .ow (a.1.map mtD)]) (fun a => (rdFm K C).Γ i (a.2.2, ms)) (fun a => RdMl a.2.2 a.2.1 (c :: r) ∧ a.1 ++ a.2.1 = ml ∧ a.1.length + a.2.2.length ≤ 20000) (fun a => a.2.2.length) ([], ml, ts1) ⟨hl, rfl, by show 0 + ts1.length ≤ 20000; omega⟩ rfl (Wk.refl _) ?_
  rintro ⟨dn, rs, ts⟩ ⟨h1, h2, h3⟩
  have h1 : RdMl ts rs (c :: r) := h1
  have h2 : dn ++ rs = ml := h2
  have h3 : dn.length + ts.length ≤ 20000 := h3
  obtain ⟨x, hx, h4⟩ := rdml_pk h1
  refine ⟨!decide (x = "}"), (rdFm K C).Γ i (ts, ms), tr_test (er_op (er_pk rfl hx) (er_E fun _ _ _ _ => e_str) ne_s rfl), fun z => ?_, fun z => ?_⟩
  · rcases h4 with ⟨rfl, _⟩ | ⟨n, m, ms1, ts0, ts2, rfl, hm, hk, hl2⟩
    · rw [decide_eq_true rfl] at z; cases z
    have l1 := rdm1_len hm
    have l2 := skc_len hk
    show SR _ _ _ [.raw (.ref ((rdFm K C).ad i)), .ow (dn.map mtD)] _
    refine r_app (i := 1) (ds := dn.map mtD) (d := mtD m) rfl (er_meth (s1 := (ts, ms)) (s' := (ts0, ms)) (R := R_m1) rfl ar_nil (rd_no (b := ⟨K, Tb, F0, H0, F0⟩) (by decide)) ⟨ts, m, ts0, ms, rfl, rfl, rfl, hm, by omega, rfl⟩) (by rw [List.length_map]; omega) ?_
    show SR _ _ _ [.raw (.ref ((rdFm K C).ad i)), .ow (dn.map mtD ++ [mtD m])] _
    have w0 : Wk [.raw (.ref ((rdFm K C).ad i)), .ow (dn.map mtD ++ [mtD m])] [.raw (.ref ((rdFm K C).ad i)), .ow ((dn ++ [m]).map mtD)] := by rw [List.map_append]; exact Wk.refl _
    have fin : RdMl ts2 ms1 (c :: r) ∧ (dn ++ [m]) ++ ms1 = ml ∧ (dn ++ [m]).length + ts2.length ≤ 20000 := ⟨hl2, by rw [List.append_assoc]; exact h2, by rw [List.length_append, List.length_singleton]; omega⟩
    have lt : ts2.length < ts.length := by omega
    rcases hk with ⟨cm, rfl, hc⟩ | ⟨rfl, y, hy, ny⟩
    · refine sr_if (c := decide ((",": Str) = ",")) (tr_test (er_op (er_pk rfl (by show txV cm.v = _; rw [hc]; rfl)) (er_E fun _ _ _ _ => e_str) eq_s rfl)) (fun z => ?_) fun z => absurd rfl (of_decide_eq_false z)
      exact sr_expr (er_tk rfl) (nr_end (a := (dn ++ [m], ms1, ts2)) ⟨fin, lt⟩ w0)
    · refine sr_if (c := decide (y = ",")) (tr_test (er_op (er_pk rfl hy) (er_E fun _ _ _ _ => e_str) eq_s rfl)) (fun z => absurd (of_decide_eq_true z) ny) fun z => ?_
      exact sr_next (nr_end (a := (dn ++ [m], ms1, ts2)) ⟨fin, lt⟩ w0)
  · rcases h4 with ⟨rfl, rfl, er⟩ | ⟨n, _⟩
    · subst er
      rw [List.append_nil] at h2
      subst h2
      exact sr_expr (er_tk rfl) (nr_end () trivial (Wk.refl _))
    · rw [decide_eq_false n] at z; cases z
end
/-! ### what the reader reads: operands, expressions -/
abbrev RdP := Int → List Tkn → List MkT → List Tkn → Prop
def stL : List (Str × Int) := [("or", 1), ("and", 2), ("unless", 2), ("<", 3), ("<=", 3), (">", 3), (">=", 3), ("==", 3), ("!=", 3), ("+", 4), ("-", 4), ("*", 5)]
def stS (x : Str) : Int := (stL.lookup x).getD 0
def stT : List (Str × PyData) := stL.map fun p => (p.1, .int p.2)
theorem st_in : ∀ x ∈ SGs, (x, PyData.int (stS x)) ∈ stT := by
  have a : ∀ x ∈ SGs, (x, stS x) ∈ stL := by decide +kernel
  intro x hx
  exact List.mem_map.mpr ⟨_, a x hx, rfl⟩
theorem st_rg : ∀ x ∈ SGs, 1 ≤ stS x ∧ stS x ≤ 5 := by decide +kernel
theorem st_no : stS "" = 0 ∧ stS ")" = 0 := by decide +kernel
def RdBy (ts : List Tkn) (ns : List Str) (r : List Tkn) : Prop := (ns = [] ∧ r = ts ∧ ∃ x, peekS ts = some x ∧ x ≠ "by") ∨ ∃ (o : Tkn) (ts1 : List Tkn), ts = o :: ts1 ∧ o.v = .str "by" ∧ RdLs ts1 ns r
def RdAg (E0 : RdP) (ts : List Tkn) (ns : List Str) (ml : List MkT) (r : List Tkn) : Prop := ∃ (o : Tkn) (ts2 : List Tkn) (c : Tkn), RdBy ts ns (o :: ts2) ∧ E0 1 ts2 ml (c :: r)
def LenE (E0 : RdP) : Prop := ∀ w ts ml r, E0 w ts ml r → ml.length + r.length ≤ ts.length
inductive RdOb (E0 : RdP) : List Tkn → List MkT → List Tkn → Prop
  | num (t : Tkn) (v : Int) (r : List Tkn) (hk : t.k = "number") (hv : t.v = .int v) : RdOb E0 (t :: r) [(.lf (.num v), t.n)] r
  | neg (m t : Tkn) (v : Int) (r : List Tkn) (hk : m.k ≠ "number") (hm : m.v = .str "-") (hv : t.v = .int v) : RdOb E0 (m :: t :: r) [(.lf (.num (-v)), m.n)] r
  | par (o : Tkn) (ts : List Tkn) (ml : List MkT) (c : Tkn) (r : List Tkn) (hk : o.k ≠ "number") (ho : o.v = .str "(") (he : E0 1 ts ml (c :: r)) : RdOb E0 (o :: ts) ml r
  | ovr (x o mt sp b1 b2 b3 : Tkn) (wo mn : Str) (ts : List Tkn) (ml : List Mt) (v : Int) (r : List Tkn) (hk : x.k ≠ "number") (hx : x.v = .str wo) (hw : wo ∈ OVs) (ho : o.v = .str "(") (hm : mt.v = .str mn) (hs : RdMs ts ml (b1 :: sp :: b2 :: b3 :: r)) (hv : sp.v = .int v) : RdOb E0 (x :: o :: mt :: ts) [(.lf (.ovr wo mn ml v), sp.n)] r
  | agg (x : Tkn) (wo p : Str) (ts : List Tkn) (ns : List Str) (ml : List MkT) (r : List Tkn) (hk : x.k ≠ "number") (hx : x.v = .str wo) (hw : wo ∈ AGs) (hp : peekS ts = some p) (pp : p = "by" ∨ p = "(") (h : RdAg E0 ts ns ml r) : RdOb E0 (x :: ts) (ml ++ [(.ag wo ns, x.n)]) r
  | lat (x : Tkn) (wo p : Str) (ts : List Tkn) (ml : List Mt) (r : List Tkn) (hk : x.k ≠ "number") (hx : x.v = .str wo) (n1 : wo ≠ "-") (n2 : wo ≠ "(") (hp : peekS ts = some p) (nv : wo ∈ OVs → p ≠ "(") (na : wo ∈ AGs → p ≠ "by" ∧ p ≠ "(") (hs : RdMs ts ml r) : RdOb E0 (x :: ts) [(.lf (.lat wo ml), x.n)] r
inductive RdW (X : RdP) (w : Int) : List Tkn → List MkT → List Tkn → Prop
  | stop (ts : List Tkn) (x : Str) (hx : peekS ts = some x) (hs : x ∈ SGs ∨ x = "" ∨ x = ")") (lt : stS x < w) : RdW X w ts [] ts
  | more (t : Tkn) (sg : Str) (ts : List Tkn) (m1 : List MkT) (r1 : List Tkn) (m2 : List MkT) (r2 : List Tkn) (hv : t.v = .str sg) (hs : sg ∈ SGs) (ge : w ≤ stS sg) (h1 : X (stS sg + 1) ts m1 r1) (h2 : RdW X w r1 m2 r2) : RdW X w (t :: ts) (m1 ++ (.bi sg, t.n) :: m2) r2
def RdEx (E0 X : RdP) : RdP := fun w ts ml r => ∃ (m1 : List MkT) (r1 : List Tkn) (m2 : List MkT), RdOb E0 ts m1 r1 ∧ RdW X w r1 m2 r ∧ ml = m1 ++ m2
theorem rdby_len {ts : List Tkn} {ns : List Str} {r : List Tkn} (h : RdBy ts ns r) : r.length ≤ ts.length := by
  rcases h with ⟨_, rfl, _⟩ | ⟨o, ts1, rfl, _, h⟩
  · exact Nat.le_refl _
  · have := rdls_len h
    rw [List.length_cons]; omega
theorem rdag_len {E0 : RdP} (hE : LenE E0) {ts : List Tkn} {ns : List Str} {ml : List MkT} {r : List Tkn} (h : RdAg E0 ts ns ml r) : ml.length + r.length + 2 ≤ ts.length := by
  obtain ⟨o, ts2, c, h1, h2⟩ := h
  have a := rdby_len h1
  have b := hE _ _ _ _ h2
  have e1 : (o :: ts2).length = ts2.length + 1 := rfl
  have e2 : (c :: r).length = r.length + 1 := rfl
  omega
theorem rdob_len {E0 : RdP} (hE : LenE E0) {ts : List Tkn} {ml : List MkT} {r : List Tkn} (h : RdOb E0 ts ml r) : ml.length + r.length ≤ ts.length := by
  cases h with
  | num t v r hk hv => show 1 + r.length ≤ r.length + 1; omega
  | neg m t v r hk hm hv => show 1 + r.length ≤ r.length + 1 + 1; omega
  | par o ts ml c r hk ho he =>
    have := hE _ _ _ _ he
    have e : (c :: r).length = r.length + 1 := rfl
    show ml.length + r.length ≤ ts.length + 1; omega
  | ovr x o mt sp b1 b2 b3 wo mn ts ml v r hk hx hw ho hm hs hv =>
    have := rdms_len hs
    have e : (b1 :: sp :: b2 :: b3 :: r).length = r.length + 4 := rfl
    show 1 + r.length ≤ ts.length + 1 + 1 + 1; omega
  | agg x wo p ts ns ml r hk hx hw hp pp h =>
    have := rdag_len hE h
    rw [List.length_append]
    show ml.length + 1 + r.length ≤ ts.length + 1; omega
  | lat x wo p ts ml r hk hx n1 n2 hp nv na hs =>
    have := rdms_len hs
    show 1 + r.length ≤ ts.length + 1; omega
theorem rdw_len {X : RdP} (hX : LenE X) {w : Int} : ∀ {ts : List Tkn} {ml : List MkT} {r : List Tkn}, RdW X w ts ml r → ml.length + r.length ≤ ts.length
  | _, _, _, .stop ts x hx hs lt => by rw [List.length_nil]; omega
  | _, _, _, .more t sg ts m1 r1 m2 r2 hv hs ge h1 h2 => by
    have a := rdw_len hX h2
    have b := hX _ _ _ _ h1
    rw [List.length_append, List.length_cons, List.length_cons]; omega
theorem rdex_len {E0 X : RdP} (hE : LenE E0) (hX : LenE X) : LenE (RdEx E0 X) := fun w ts ml r ⟨m1, r1, m2, h1, h2, e⟩ => by
  have a := rdob_len hE h1
  have b := rdw_len hX h2
  rw [e, List.length_append]; omega
section
variable {b : Gd} {L : Addr → Prop} {Γ Γ' : Gst L} {G : List Sl} {te ty : TE} {d : PyData} {i : Nat} {D : Ends} {p : Addr} {w : World} {tab : List (Str × PyData)} {ms : List Str} {k : Str}
theorem sr_asg (h : ER b te G Γ Γ' d) (k : NR b D.nx (G.set i (.fz d)) Γ') : SR b (tAsg te (gName i)) D G Γ := fun σ F H hh => h σ F H hh _ fun v F1 H1 s1 hh1 d1 => k _ F1 H1 (hh1.setF d1)
theorem er_kget (T : KdT b.K w p tab ms) (h : ER b ty G Γ Γ' (.str k)) (hd : (k, d) ∈ tab ∨ (k ∈ ms ∧ d = .int 0)) : ER b (tKGet2 b.K w (tC (.ref p)) ty (tC (.int 0))) G Γ Γ' d := fun σ F H hh Q q =>
  ⟨p, rfl, T.kd, h σ F H hh _ fun v F1 H1 s1 hh1 d1 => by
    cases d1
    refine ⟨k, rfl, ?_⟩
    rcases hd with hd | ⟨hd, rfl⟩
    · obtain ⟨u, v, e, r, dp⟩ := T.has _ hd
      exact .inl ⟨u, v, e, r, q v F1 H1 s1 hh1 (dp F1)⟩
    · exact .inr ⟨T.non _ hd, q _ F1 H1 s1 hh1 (.int 0)⟩⟩
end
theorem er_tkD {b : Gd} {C : Addr} {i : (rdFm b.K C).ι} {G : List Sl} {r : List Tkn} {ms : List MkT} {t : Tkn} {Ek : XK} {d : PyData} (h : G[0]? = some (.raw (.ref ((rdFm b.K C).ad i)))) (e : tokD t = d) : ER b (tMeth C "take" (spF b.K b.T (rdFm b.K C) R_tkr) [] Ek (tVar 0) tNil) G ((rdFm b.K C).Γ i (t :: r, ms)) ((rdFm b.K C).Γ i (r, ms)) d := e ▸ er_tk h
section
variable {P : Program} {w : World} {K : PySem.W.Frag} {mg : Str → Option Value} {base : Heap} {f C : Addr} {fd : FuncData} {Tb : List Addr} {k : Nat}
def R_rov : RdS → List PyData → RdS → PyData → Prop := fun s ds s' d => ∃ (o mt sp b1 b2 b3 : Tkn) (wo mn : Str) (ts : List Tkn) (ml : List Mt) (v : Int) (r : List Tkn) (ms : List MkT), s = (o :: mt :: ts, ms) ∧ ds = [.str wo] ∧ s' = (r, ms ++ [(.lf (.ovr wo mn ml v), sp.n)]) ∧ mt.v = .str mn ∧ RdMs ts ml (b1 :: sp :: b2 :: b3 :: r) ∧ sp.v = .int v ∧ ms.length + ts.length ≤ 20000 ∧ d = .none
theorem ok_rov (Fn : Fun K "read_over" "Reader.read_over" s_Reader_read_over f fd) (hM : Meth K C "read_over" f) (hb : Binds K fd ["self", "word"] []) (Z : Zb mg) (CL_Reader : Cls K C) (N3 : NoAttr K C "marks")
    (M_Reader_take : DW.MtOk P w K mg base 1 C "take" ["self"] (spF K Tb (rdFm K C) R_tkr)) (M_Reader_read_matchers : DW.MtOk P w K mg base 4 C "read_matchers" ["self"] (spF K Tb (rdFm K C) R_rms)) :
    DW.MtOk P w K mg base 5 C "read_over" ["self", "word"] (spF K Tb (rdFm K C) R_rov) := by
  refine mt_F Fn sc_Reader_read_over hM hb (fun s ds s' d h => by obtain ⟨_, _, _, _, _, _, _, _, _, _, _, _, _, _, rfl, _⟩ := h; rfl) fun cdv A outer s H Ek hr => ⟨_, (pss_cons (ps_expr (pe_mtM0 M_Reader_take CL_Reader hr (by first | decide | exact Nat.le_refl _ | omega) (pv 0)))
      (pss_cons (ps_set (i := 2) sc_Reader_read_over.nd rfl (by first | exact .inl rfl | exact .inr rfl) (pe_ix (ix_seqK K) (pe_mtM0 M_Reader_take CL_Reader hr (by first | decide | exact Nat.le_refl _ | omega) (pv 0)) pe_int (fun _ _ => rfl)))
      (pss_cons (ps_set (i := 3) sc_Reader_read_over.nd rfl (by first | exact .inl rfl | exact .inr rfl) (pe_mtM0 M_Reader_read_matchers CL_Reader hr (by first | decide | exact Nat.le_refl _ | omega) (pv 0)))
      (pss_cons (ps_expr (pe_mtM0 M_Reader_take CL_Reader hr (by first | decide | exact Nat.le_refl _ | omega) (pv 0)))
      (pss_cons (ps_asg (pe_mtM0 M_Reader_take CL_Reader hr (by first | decide | exact Nat.le_refl _ | omega) (pv 0)) (pg_tupK (n := 3) K rfl (pgs_cons (pg_name (i := 4) sc_Reader_read_over.nd rfl (by first | exact .inl rfl | exact .inr rfl)) (pgs_cons (pg_name (i := 5) sc_Reader_read_over.nd rfl (by first | exact .inl rfl | exact .inr rfl)) (pgs_cons (pg_name (i := 6) sc_Reader_read_over.nd rfl (by first | exact .inl rfl | exact .inr rfl)) pgs_nil)))))
      (pss_cons (ps_expr (pe_mtM0 M_Reader_take CL_Reader hr (by first | decide | exact Nat.le_refl _ | omega) (pv 0)))
      (pss_cons (ps_expr (pe_mtM0 M_Reader_take CL_Reader hr (by first | decide | exact Nat.le_refl _ | omega) (pv 0)))
      (pss_one (ps_expr (pe_bm PySem.F.plainAttrs_list PySem.F.slot_list_append PySem.F.type_list_append mt_append (pe_fldK K (pv 0)) (pa_cons (pe_tup (pa_cons (pe_tup (pa_cons pe_str (pa_cons (pv 1) (pa_cons (pv 2) (pa_cons (pv 3) (pa_cons (pv 5) pa_nil)))))) (pa_cons (pv 6) pa_nil))) pa_nil))))))))))),  fun i s ds s' d F0 H0 Q r rt => ?_⟩
  obtain ⟨o, mt, sp, b1, b2, b3, wo, mn, ts, ml, v, r, ms, rfl, rfl, rfl, hm, hs, hv, hz, rfl⟩ := r
  show SR _ _ _ [.raw (.ref ((rdFm K C).ad i)), .fz (.str wo), .un, .un, .un, .un, .un] _
  refine r_expr (er_tk rfl) ?_
  refine r_asg (i := 2) (d := .str mn) (er_tk1 rfl hm) ?_
  show SR _ _ _ [.raw (.ref ((rdFm K C).ad i)), .fz (.str wo), .fz (.str mn), .un, .un, .un, .un] _
  refine r_asg (i := 3) (d := msD ml) (er_meth (s1 := (ts, ms)) (s' := (b1 :: sp :: b2 :: b3 :: r, ms)) (R := R_rms) rfl ar_nil (rd_no (b := ⟨K, Tb, F0, H0, F0⟩) (by decide)) ⟨ts, ml, _, ms, rfl, rfl, rfl, hs, by omega, rfl⟩) ?_
  show SR _ _ _ [.raw (.ref ((rdFm K C).ad i)), .fz (.str wo), .fz (.str mn), .fz (msD ml), .un, .un, .un] _
  refine r_expr (er_tk rfl) ?_
  refine r_asgT (er_tkD (d := .tuple [.str sp.k, .int v, .int (sp.n : Nat)]) rfl (by unfold tokD; rw [hv])) (fun F1 H1 Fl => g_tup (gs_cons g_name (gs_cons g_name (gs_cons g_name gs_nil))) rfl) ?_
  show SR _ _ _ [.raw (.ref ((rdFm K C).ad i)), .fz (.str wo), .fz (.str mn), .fz (msD ml), .fz (.str sp.k), .fz (.int v), .fz (.int (sp.n : Nat))] _
  refine r_expr (er_tk rfl) ?_
  refine r_expr (er_tk rfl) ?_
  exact sr_mark rfl CL_Reader N3 (er_E fun _ _ _ _ => e_tup (a_cons (e_tup (a_cons e_str (a_cons (e_var rfl) (a_cons (e_var rfl) (a_cons (e_var rfl) (a_cons (e_var rfl) a_nil))))) (Nat.le_of_ble_eq_true rfl)) (a_cons (e_var rfl) a_nil)) (Nat.le_of_ble_eq_true rfl)) (by omega) (nr_ret rt)
def R_re (X : RdP) : RdS → List PyData → RdS → PyData → Prop := fun s ds s' d => ∃ (wk : Int) (ts : List Tkn) (ml : List MkT) (r : List Tkn) (ms : List MkT), s = (ts, ms) ∧ ds = [.int wk] ∧ s' = (r, ms ++ ml) ∧ X wk ts ml r ∧ ms.length + ts.length ≤ 20000 ∧ d = .none
def R_rag (E0 : RdP) : RdS → List PyData → RdS → PyData → Prop := fun s ds s' d => ∃ (wo : Str) (n : Nat) (ts : List Tkn) (ns : List Str) (ml : List MkT) (r : List Tkn) (ms : List MkT), s = (ts, ms) ∧ ds = [.str wo, .int (n : Nat)] ∧ s' = (r, ms ++ (ml ++ [(.ag wo ns, n)])) ∧ RdAg E0 ts ns ml r ∧ ms.length + ts.length ≤ 20000 ∧ d = .none
theorem ok_rag {E0 : RdP} (hE : LenE E0) {j : Nat} (hj : 5 ≤ j) (Fn : Fun K "read_aggregate" "Reader.read_aggregate" s_Reader_read_aggregate f fd) (hM : Meth K C "read_aggregate" f) (hb : Binds K fd ["self", "word", "place"] []) (Z : Zb mg) (CL_Reader : Cls K C) (N3 : NoAttr K C "marks")
    (M_Reader_take : DW.MtOk P w K mg base 1 C "take" ["self"] (spF K Tb (rdFm K C) R_tkr)) (M_Reader_peek : DW.MtOk P w K mg base 1 C "peek" ["self"] (spF K Tb (rdFm K C) R_pk)) (M_Reader_read_list : DW.MtOk P w K mg base 2 C "read_list" ["self"] (spF K Tb (rdFm K C) R_rls))
    (M_Reader_read_expression : DW.MtOk P w K mg base j C "read_expression" ["self", "weakest"] (spF K Tb (rdFm K C) (R_re E0))) :
    DW.MtOk P w K mg base (j + 1) C "read_aggregate" ["self", "word", "place"] (spF K Tb (rdFm K C) (R_rag E0)) := by
  refine mt_F Fn sc_Reader_read_aggregate hM hb (fun s ds s' d h => by obtain ⟨_, _, _, _, _, _, _, _, rfl, _⟩ := h; rfl) fun cdv A outer s H Ek hr => ⟨_, (pss_cons (ps_set (i := 3) sc_Reader_read_aggregate.nd rfl (by first | exact .inl rfl | exact .inr rfl) (pe_tup pa_nil))
      (Evl.pss_cut (ps_if (pt_cmpR (uEqK K hr.units) (pe_mtM0 M_Reader_peek CL_Reader hr (by first | decide | exact Nat.le_refl _ | omega) (pv 0)) pe_str (nomark _)) (pss_cons (ps_expr (pe_mtM0 M_Reader_take CL_Reader hr (by first | decide | exact Nat.le_refl _ | omega) (pv 0)))
      (pss_one (ps_set (i := 3) sc_Reader_read_aggregate.nd rfl (by first | exact .inl rfl | exact .inr rfl) (pe_mtM0 M_Reader_read_list CL_Reader hr (by first | decide | exact Nat.le_refl _ | omega) (pv 0))))) pss_nil)
      (pss_cons (ps_expr (pe_mtM0 M_Reader_take CL_Reader hr (by first | decide | exact Nat.le_refl _ | omega) (pv 0)))
      (pss_cons (ps_expr (pe_mtM M_Reader_read_expression CL_Reader hr (by first | decide | exact Nat.le_refl _ | omega) (pv 0) (pa_cons pe_int pa_nil)))
      (pss_cons (ps_expr (pe_mtM0 M_Reader_take CL_Reader hr (by first | decide | exact Nat.le_refl _ | omega) (pv 0)))
      (pss_one (ps_expr (pe_bm PySem.F.plainAttrs_list PySem.F.slot_list_append PySem.F.type_list_append mt_append (pe_fldK K (pv 0)) (pa_cons (pe_tup (pa_cons (pe_tup (pa_cons pe_str (pa_cons (pv 1) (pa_cons (pv 3) pa_nil)))) (pa_cons (pv 2) pa_nil))) pa_nil))))))))),  fun i s ds s' d F0 H0 Q r rt => ?_⟩
  obtain ⟨wo, n, ts, ns, ml, r, ms, rfl, rfl, rfl, ⟨o, ts2, c, h1, h2⟩, hz, rfl⟩ := r
  have l1 := rdby_len h1
  have l2 := hE _ _ _ _ h2
  have e1 : (o :: ts2).length = ts2.length + 1 := rfl
  show SR _ _ _ [.raw (.ref ((rdFm K C).ad i)), .fz (.str wo), .fz (.int (n : Nat)), .un] _
  refine r_asg (i := 3) (d := .tuple []) (er_E fun _ _ _ _ => e_tup a_nil (by decide)) ?_
  show SR _ _ _ [.raw (.ref ((rdFm K C).ad i)), .fz (.str wo), .fz (.int (n : Nat)), .fz (.tuple [])] _
  refine sr_cut (α := Unit) (fun _ => [.raw (.ref ((rdFm K C).ad i)), .fz (.str wo), .fz (.int (n : Nat)), .fz (tsD ns)]) (fun _ => (rdFm K C).Γ i (o :: ts2, ms)) (fun _ => True) ?_ fun _ _ => ?_
  · rcases h1 with ⟨rfl, rfl, x, hx, nx⟩ | ⟨o1, ts1, rfl, ho, hl⟩
    · exact sr_if (c := decide (x = "by")) (tr_test (er_op (er_pk rfl hx) (er_E fun _ _ _ _ => e_str) eq_s rfl)) (fun z => absurd (of_decide_eq_true z) nx) fun z => sr_next (nr_end () trivial (Wk.refl _))
    · refine sr_if (c := decide (("by" : Str) = "by")) (tr_test (er_op (er_pk rfl (by show txV o1.v = _; rw [ho]; rfl)) (er_E fun _ _ _ _ => e_str) eq_s rfl)) (fun z => ?_) fun z => absurd rfl (of_decide_eq_false z)
      refine r_expr (er_tk rfl) ?_
      have e2 : (o1 :: ts1).length = ts1.length + 1 := rfl
      exact sr_asg (i := 3) (d := tsD ns) (er_meth (s1 := (ts1, ms)) (s' := (o :: ts2, ms)) (R := R_rls) rfl ar_nil (rd_no (b := ⟨K, Tb, F0, H0, F0⟩) (by decide)) ⟨ts1, ns, _, ms, rfl, rfl, rfl, hl, by omega, rfl⟩) (nr_end () trivial (Wk.refl _))
  refine r_expr (er_tk rfl) ?_
  refine r_expr (er_meth (s1 := (ts2, ms)) (s' := (c :: r, ms ++ ml)) (R := R_re E0) rfl (ar_A fun _ _ _ _ => a_cons e_int a_nil) (rd_no (b := ⟨K, Tb, F0, H0, F0⟩) (by decide)) ⟨1, ts2, ml, _, ms, rfl, rfl, rfl, h2, by omega, rfl⟩) ?_
  refine r_expr (er_tk rfl) ?_
  rw [← List.append_assoc] at rt
  have lm : (ms ++ ml).length = ms.length + ml.length := List.length_append
  exact sr_mark rfl CL_Reader N3 (er_E fun _ _ _ _ => e_tup (a_cons (e_tup (a_cons e_str (a_cons (e_var rfl) (a_cons (e_var rfl) a_nil))) (Nat.le_of_ble_eq_true rfl)) (a_cons (e_var rfl) a_nil)) (Nat.le_of_ble_eq_true rfl)) (by omega) (nr_ret rt)
def R_ro (E0 : RdP) : RdS → List PyData → RdS → PyData → Prop := fun s ds s' d => ∃ (ts : List Tkn) (ml : List MkT) (r : List Tkn) (ms : List MkT), s = (ts, ms) ∧ ds = [] ∧ s' = (r, ms ++ ml) ∧ RdOb E0 ts ml r ∧ ms.length + ts.length ≤ 20000 ∧ d = .none
theorem ov_no : ∀ x ∈ OVs, x ≠ "-" ∧ x ≠ "(" := by decide +kernel
theorem ag_no : ∀ x ∈ AGs, x ≠ "-" ∧ x ≠ "(" ∧ x ∉ OVs := by decide +kernel
theorem ok_ro {E0 : RdP} (hE : LenE E0) {j : Nat} {pO pA : Addr} (hj : 5 ≤ j) (Fn : Fun K "read_operand" "Reader.read_operand" s_Reader_read_operand f fd) (hM : Meth K C "read_operand" f) (hb : Binds K fd ["self"] []) (Z : Zb mg) (CL_Reader : Cls K C) (N3 : NoAttr K C "marks")
    (TO : TcOk K mg "OVER_WORDS" pO OVs) (TA : TcOk K mg "AGGREGATE_WORDS" pA AGs)
    (M_Reader_take : DW.MtOk P w K mg base 1 C "take" ["self"] (spF K Tb (rdFm K C) R_tkr)) (M_Reader_peek : DW.MtOk P w K mg base 1 C "peek" ["self"] (spF K Tb (rdFm K C) R_pk)) (M_Reader_read_matchers : DW.MtOk P w K mg base 4 C "read_matchers" ["self"] (spF K Tb (rdFm K C) R_rms))
    (M_Reader_read_over : DW.MtOk P w K mg base 5 C "read_over" ["self", "word"] (spF K Tb (rdFm K C) R_rov))
    (M_Reader_read_expression : DW.MtOk P w K mg base j C "read_expression" ["self", "weakest"] (spF K Tb (rdFm K C) (R_re E0)))
    (M_Reader_read_aggregate : DW.MtOk P w K mg base (j + 1) C "read_aggregate" ["self", "word", "place"] (spF K Tb (rdFm K C) (R_rag E0))) :
    DW.MtOk P w K mg base (j + 2) C "read_operand" ["self"] (spF K Tb (rdFm K C) (R_ro E0)) := by
  have C_OVER_WORDS := TO.c
  have C_AGGREGATE_WORDS := TA.c
  refine mt_F Fn sc_Reader_read_operand hM hb (fun s ds s' d h => by obtain ⟨_, _, _, _, _, rfl, _⟩ := h; rfl) fun cdv A outer s H Ek hr => ⟨_, (pss_cons (ps_asg (pe_mtM0 M_Reader_take CL_Reader hr (by first | decide | exact Nat.le_refl _ | omega) (pv 0)) (pg_tupK (n := 3) K rfl (pgs_cons (pg_name (i := 1) sc_Reader_read_operand.nd rfl (by first | exact .inl rfl | exact .inr rfl)) (pgs_cons (pg_name (i := 2) sc_Reader_read_operand.nd rfl (by first | exact .inl rfl | exact .inr rfl)) (pgs_cons (pg_name (i := 3) sc_Reader_read_operand.nd rfl (by first | exact .inl rfl | exact .inr rfl)) pgs_nil)))))
      (pss_one (ps_if (pt_cmpR (uEqK K hr.units) (pv 1) pe_str (nomark _)) (pss_one (ps_expr (pe_bm PySem.F.plainAttrs_list PySem.F.slot_list_append PySem.F.type_list_append mt_append (pe_fldK K (pv 0)) (pa_cons (pe_tup (pa_cons (pe_tup (pa_cons pe_str (pa_cons (pv 2) pa_nil))) (pa_cons (pv 3) pa_nil))) pa_nil)))) (pss_one (ps_if (pt_cmpR (uEqK K hr.units) (pv 2) pe_str (nomark _)) (pss_one (ps_expr (pe_bm PySem.F.plainAttrs_list PySem.F.slot_list_append PySem.F.type_list_append mt_append (pe_fldK K (pv 0)) (pa_cons (pe_tup (pa_cons (pe_tup (pa_cons pe_str (pa_cons (pe_un un_neg (pe_ix (ix_seqK K) (pe_mtM0 M_Reader_take CL_Reader hr (by first | decide | exact Nat.le_refl _ | omega) (pv 0)) pe_int (fun _ _ => rfl))) pa_nil))) (pa_cons (pv 3) pa_nil))) pa_nil)))) (pss_one (ps_if (pt_cmpR (uEqK K hr.units) (pv 2) pe_str (nomark _)) (pss_cons (ps_expr (pe_mtM M_Reader_read_expression CL_Reader hr (by first | decide | exact Nat.le_refl _ | omega) (pv 0) (pa_cons pe_int pa_nil)))
      (pss_one (ps_expr (pe_mtM0 M_Reader_take CL_Reader hr (by first | decide | exact Nat.le_refl _ | omega) (pv 0))))) (pss_one (ps_if (PW.pt (pw_and (pt_cmpR (uInK K) (pv 2) (pe_gc C_OVER_WORDS (by rfl)) (by rfl)) (pw_and1 (pt_cmpR (uEqK K hr.units) (pe_mtM0 M_Reader_peek CL_Reader hr (by first | decide | exact Nat.le_refl _ | omega) (pv 0)) pe_str (nomark _))))) (pss_one (ps_expr (pe_mtM M_Reader_read_over CL_Reader hr (by first | decide | exact Nat.le_refl _ | omega) (pv 0) (pa_cons (pv 2) pa_nil)))) (pss_one (ps_if (PW.pt (pw_and (pt_cmpR (uInK K) (pv 2) (pe_gc C_AGGREGATE_WORDS (by rfl)) (by rfl)) (pw_and1 (pt_cmpR (uInK K) (pe_mtM0 M_Reader_peek CL_Reader hr (by first | decide | exact Nat.le_refl _ | omega) (pv 0)) (pe_tup (pa_cons pe_str (pa_cons pe_str pa_nil))) (by rfl))))) (pss_one (ps_expr (pe_mtM M_Reader_read_aggregate CL_Reader hr (by first | decide | exact Nat.le_refl _ | omega) (pv 0) (pa_cons (pv 2) (pa_cons (pv 3) pa_nil))))) (pss_one (ps_expr (pe_bm PySem.F.plainAttrs_list PySem.F.slot_list_append PySem.F.type_list_append mt_append (pe_fldK K (pv 0)) (pa_cons (pe_tup (pa_cons (pe_tup (pa_cons pe_str (pa_cons (pv 2) (pa_cons (pe_mtM0 M_Reader_read_matchers CL_Reader hr (by first | decide | exact Nat.le_refl _ | omega) (pv 0)) pa_nil)))) (pa_cons (pv 3) pa_nil))) pa_nil))))))))))))))),  fun i s ds s' d F0 H0 Q r rt => ?_⟩
  obtain ⟨ts, ml, r, ms, rfl, rfl, rfl, h, hz, rfl⟩ := r
  have lz := rdob_len hE h
  show SR _ _ _ [.raw (.ref ((rdFm K C).ad i)), .un, .un, .un] _
  cases h with
  | num t v r hk hv =>
    refine r_asgT (er_tkD (d := .tuple [.str t.k, .int v, .int (t.n : Nat)]) rfl (by unfold tokD; rw [hv])) (fun F1 H1 Fl => g_tup (gs_cons g_name (gs_cons g_name (gs_cons g_name gs_nil))) rfl) ?_
    show SR _ _ _ [.raw (.ref ((rdFm K C).ad i)), .fz (.str t.k), .fz (.int v), .fz (.int (t.n : Nat))] _
    refine sr_if (c := decide (t.k = "number")) (tr_T fun _ _ _ _ => t_test (b_op (E.b (e_var rfl)) (E.b e_str) eq_s rfl)) (fun z => ?_) fun z => absurd hk (of_decide_eq_false z)
    exact sr_mark rfl CL_Reader N3 (er_E fun _ _ _ _ => e_tup (a_cons (e_tup (a_cons e_str (a_cons (e_var rfl) a_nil)) (Nat.le_of_ble_eq_true rfl)) (a_cons (e_var rfl) a_nil)) (Nat.le_of_ble_eq_true rfl)) (by omega) (nr_ret rt)
  | neg m t v r hk hm hv =>
    refine r_asgT (er_tkD (d := .tuple [.str m.k, .str "-", .int (m.n : Nat)]) rfl (by unfold tokD; rw [hm])) (fun F1 H1 Fl => g_tup (gs_cons g_name (gs_cons g_name (gs_cons g_name gs_nil))) rfl) ?_
    show SR _ _ _ [.raw (.ref ((rdFm K C).ad i)), .fz (.str m.k), .fz (.str "-"), .fz (.int (m.n : Nat))] _
    refine sr_if (c := decide (m.k = "number")) (tr_T fun _ _ _ _ => t_test (b_op (E.b (e_var rfl)) (E.b e_str) eq_s rfl)) (fun z => absurd (of_decide_eq_true z) hk) fun z => ?_
    refine sr_if (c := decide (("-" : Str) = "-")) (tr_T fun _ _ _ _ => t_test (b_op (E.b (e_var rfl)) (E.b e_str) eq_s rfl)) (fun z => ?_) fun z => absurd rfl (of_decide_eq_false z)
    exact sr_mark rfl CL_Reader N3 (er_tup (ar_cons (er_tup (ar_cons (er_E fun _ _ _ _ => e_str) (ar_cons (er_neg (er_tk1 rfl hv)) ar_nil)) (Nat.le_of_ble_eq_true rfl)) (ar_cons (er_E fun _ _ _ _ => e_var rfl) ar_nil)) (Nat.le_of_ble_eq_true rfl)) (by omega) (nr_ret rt)
  | par o ts ml c r hk ho he =>
    refine r_asgT (er_tkD (d := .tuple [.str o.k, .str "(", .int (o.n : Nat)]) rfl (by unfold tokD; rw [ho])) (fun F1 H1 Fl => g_tup (gs_cons g_name (gs_cons g_name (gs_cons g_name gs_nil))) rfl) ?_
    show SR _ _ _ [.raw (.ref ((rdFm K C).ad i)), .fz (.str o.k), .fz (.str "("), .fz (.int (o.n : Nat))] _
    refine sr_if (c := decide (o.k = "number")) (tr_T fun _ _ _ _ => t_test (b_op (E.b (e_var rfl)) (E.b e_str) eq_s rfl)) (fun z => absurd (of_decide_eq_true z) hk) fun z => ?_
    refine sr_if (c := decide (("(" : Str) = "-")) (tr_T fun _ _ _ _ => t_test (b_op (E.b (e_var rfl)) (E.b e_str) eq_s rfl)) (fun z => absurd (of_decide_eq_true z) (by decide)) fun z => ?_
    refine sr_if (c := decide (("(" : Str) = "(")) (tr_T fun _ _ _ _ => t_test (b_op (E.b (e_var rfl)) (E.b e_str) eq_s rfl)) (fun z => ?_) fun z => absurd rfl (of_decide_eq_false z)
    have e1 : (o :: ts).length = ts.length + 1 := rfl
    refine r_expr (er_meth (s1 := (ts, ms)) (s' := (c :: r, ms ++ ml)) (R := R_re E0) rfl (ar_A fun _ _ _ _ => a_cons e_int a_nil) (rd_no (b := ⟨K, Tb, F0, H0, F0⟩) (by decide)) ⟨1, ts, ml, _, ms, rfl, rfl, rfl, he, by omega, rfl⟩) ?_
    exact sr_expr (er_tk rfl) (nr_ret rt)
  | ovr x o mt sp b1 b2 b3 wo mn ts ml v r hk hx hw ho hm hs hv =>
    refine r_asgT (er_tkD (d := .tuple [.str x.k, .str wo, .int (x.n : Nat)]) rfl (by unfold tokD; rw [hx])) (fun F1 H1 Fl => g_tup (gs_cons g_name (gs_cons g_name (gs_cons g_name gs_nil))) rfl) ?_
    show SR _ _ _ [.raw (.ref ((rdFm K C).ad i)), .fz (.str x.k), .fz (.str wo), .fz (.int (x.n : Nat))] _
    have nn := ov_no wo hw
    refine sr_if (c := decide (x.k = "number")) (tr_T fun _ _ _ _ => t_test (b_op (E.b (e_var rfl)) (E.b e_str) eq_s rfl)) (fun z => absurd (of_decide_eq_true z) hk) fun z => ?_
    refine sr_if (c := decide (wo = "-")) (tr_T fun _ _ _ _ => t_test (b_op (E.b (e_var rfl)) (E.b e_str) eq_s rfl)) (fun z => absurd (of_decide_eq_true z) nn.1) fun z => ?_
    refine sr_if (c := decide (wo = "(")) (tr_T fun _ _ _ _ => t_test (b_op (E.b (e_var rfl)) (E.b e_str) eq_s rfl)) (fun z => absurd (of_decide_eq_true z) nn.2) fun z => ?_
    refine sr_if (c := decide (wo ∈ OVs) && decide (("(" : Str) = "(")) (tr_and (tr_T fun _ _ _ _ => t_test (by rw [← inD_str]; exact b_op (E.b (e_var rfl)) (E.b (e_tc TO)) (in_t rfl (scal_strs OVs)) rfl)) fun _ => tr_test (er_op (er_pk rfl (by show txV o.v = _; rw [ho]; rfl)) (er_E fun _ _ _ _ => e_str) eq_s rfl)) (fun z => ?_) fun z => by rw [decide_eq_true hw, decide_eq_true rfl] at z; cases z
    have e1 : (x :: o :: mt :: ts).length = ts.length + 3 := rfl
    exact sr_expr (er_meth (s1 := (o :: mt :: ts, ms)) (s' := (r, ms ++ [(.lf (.ovr wo mn ml v), sp.n)])) (R := R_rov) rfl (ar_A fun _ _ _ _ => a_cons (e_var rfl) a_nil) (rd_no (b := ⟨K, Tb, F0, H0, F0⟩) (by decide)) ⟨o, mt, sp, b1, b2, b3, wo, mn, ts, ml, v, r, ms, rfl, rfl, rfl, hm, hs, hv, by omega, rfl⟩) (nr_ret rt)
  | agg x wo p ts ns ml r hk hx hw hp pp h =>
    refine r_asgT (er_tkD (d := .tuple [.str x.k, .str wo, .int (x.n : Nat)]) rfl (by unfold tokD; rw [hx])) (fun F1 H1 Fl => g_tup (gs_cons g_name (gs_cons g_name (gs_cons g_name gs_nil))) rfl) ?_
    show SR _ _ _ [.raw (.ref ((rdFm K C).ad i)), .fz (.str x.k), .fz (.str wo), .fz (.int (x.n : Nat))] _
    have nn := ag_no wo hw
    refine sr_if (c := decide (x.k = "number")) (tr_T fun _ _ _ _ => t_test (b_op (E.b (e_var rfl)) (E.b e_str) eq_s rfl)) (fun z => absurd (of_decide_eq_true z) hk) fun z => ?_
    refine sr_if (c := decide (wo = "-")) (tr_T fun _ _ _ _ => t_test (b_op (E.b (e_var rfl)) (E.b e_str) eq_s rfl)) (fun z => absurd (of_decide_eq_true z) nn.1) fun z => ?_
    refine sr_if (c := decide (wo = "(")) (tr_T fun _ _ _ _ => t_test (b_op (E.b (e_var rfl)) (E.b e_str) eq_s rfl)) (fun z => absurd (of_decide_eq_true z) nn.2.1) fun z => ?_
    refine sr_if (c := decide (wo ∈ OVs) && decide (p = "(")) (tr_and (tr_T fun _ _ _ _ => t_test (by rw [← inD_str]; exact b_op (E.b (e_var rfl)) (E.b (e_tc TO)) (in_t rfl (scal_strs OVs)) rfl)) fun _ => tr_test (er_op (er_pk rfl hp) (er_E fun _ _ _ _ => e_str) eq_s rfl)) (fun z => by rw [decide_eq_false nn.2.2] at z; cases z) fun z => ?_
    refine sr_if (c := decide (wo ∈ AGs) && decide (p ∈ (["by", "("] : List Str))) (tr_and (tr_T fun _ _ _ _ => t_test (by rw [← inD_str]; exact b_op (E.b (e_var rfl)) (E.b (e_tc TA)) (in_t rfl (scal_strs AGs)) rfl)) fun _ => tr_test (by rw [← inD_str]; exact er_op (er_pk rfl hp) (er_E fun _ _ _ _ => e_tup (a_cons e_str (a_cons e_str a_nil)) (by decide)) (in_t rfl rfl) rfl)) (fun z => ?_) fun z => ?_
    · have e1 : (x :: ts).length = ts.length + 1 := rfl
      exact sr_expr (er_meth (s1 := (ts, ms)) (s' := (r, ms ++ (ml ++ [(.ag wo ns, x.n)]))) (R := R_rag E0) rfl (ar_A fun _ _ _ _ => a_cons (e_var rfl) (a_cons (e_var rfl) a_nil)) (rd_no (b := ⟨K, Tb, F0, H0, F0⟩) (by decide)) ⟨wo, x.n, ts, ns, ml, r, ms, rfl, rfl, rfl, h, by omega, rfl⟩) (nr_ret rt)
    · have hp2 : p ∈ (["by", "("] : List Str) := by rcases pp with rfl | rfl <;> decide
      rw [decide_eq_true hw, decide_eq_true hp2] at z; cases z
  | lat x wo p ts ml r hk hx n1 n2 hp nv na hs =>
    refine r_asgT (er_tkD (d := .tuple [.str x.k, .str wo, .int (x.n : Nat)]) rfl (by unfold tokD; rw [hx])) (fun F1 H1 Fl => g_tup (gs_cons g_name (gs_cons g_name (gs_cons g_name gs_nil))) rfl) ?_
    show SR _ _ _ [.raw (.ref ((rdFm K C).ad i)), .fz (.str x.k), .fz (.str wo), .fz (.int (x.n : Nat))] _
    refine sr_if (c := decide (x.k = "number")) (tr_T fun _ _ _ _ => t_test (b_op (E.b (e_var rfl)) (E.b e_str) eq_s rfl)) (fun z => absurd (of_decide_eq_true z) hk) fun z => ?_
    refine sr_if (c := decide (wo = "-")) (tr_T fun _ _ _ _ => t_test (b_op (E.b (e_var rfl)) (E.b e_str) eq_s rfl)) (fun z => absurd (of_decide_eq_true z) n1) fun z => ?_
    refine sr_if (c := decide (wo = "(")) (tr_T fun _ _ _ _ => t_test (b_op (E.b (e_var rfl)) (E.b e_str) eq_s rfl)) (fun z => absurd (of_decide_eq_true z) n2) fun z => ?_
    refine sr_if (c := decide (wo ∈ OVs) && decide (p = "(")) (tr_and (tr_T fun _ _ _ _ => t_test (by rw [← inD_str]; exact b_op (E.b (e_var rfl)) (E.b (e_tc TO)) (in_t rfl (scal_strs OVs)) rfl)) fun _ => tr_test (er_op (er_pk rfl hp) (er_E fun _ _ _ _ => e_str) eq_s rfl)) (fun z => ?_) fun z => ?_
    · have z := Bool.and_eq_true_iff.mp z
      exact absurd (of_decide_eq_true z.2) (nv (of_decide_eq_true z.1))
    refine sr_if (c := decide (wo ∈ AGs) && decide (p ∈ (["by", "("] : List Str))) (tr_and (tr_T fun _ _ _ _ => t_test (by rw [← inD_str]; exact b_op (E.b (e_var rfl)) (E.b (e_tc TA)) (in_t rfl (scal_strs AGs)) rfl)) fun _ => tr_test (by rw [← inD_str]; exact er_op (er_pk rfl hp) (er_E fun _ _ _ _ => e_tup (a_cons e_str (a_cons e_str a_nil)) (by decide)) (in_t rfl rfl) rfl)) (fun z => ?_) fun z => ?_
    · have z := Bool.and_eq_true_iff.mp z
      have n3 := na (of_decide_eq_true z.1)
      have z2 : p = "by" ∨ p = "(" := by simpa using of_decide_eq_true z.2
      rcases z2 with e | e
      · exact absurd e n3.1
      · exact absurd e n3.2
    have e1 : (x :: ts).length = ts.length + 1 := rfl
    exact sr_mark rfl CL_Reader N3 (er_tup (ar_cons (er_tup (ar_cons (er_E fun _ _ _ _ => e_str) (ar_cons (er_E fun _ _ _ _ => e_var rfl) (ar_cons (er_meth (s1 := (ts, ms)) (s' := (r, ms)) (R := R_rms) rfl ar_nil (rd_no (b := ⟨K, Tb, F0, H0, F0⟩) (by decide)) ⟨ts, ml, r, ms, rfl, rfl, rfl, hs, by omega, rfl⟩) ar_nil))) (Nat.le_of_ble_eq_true rfl)) (ar_cons (er_E fun _ _ _ _ => e_var rfl) ar_nil)) (Nat.le_of_ble_eq_true rfl)) (by omega) (nr_ret rt)
theorem ok_re {E0 X : RdP} (hE : LenE E0) (hX : LenE X) {J j1 j2 : Nat} {pS : Addr} (h1 : j1 ≤ J) (h2 : j2 ≤ J) (hj : 5 ≤ J) (Fn : Fun K "read_expression" "Reader.read_expression" s_Reader_read_expression f fd) (hM : Meth K C "read_expression" f) (hb : Binds K fd ["self", "weakest"] []) (Z : Zb mg) (CL_Reader : Cls K C) (N3 : NoAttr K C "marks")
    (C_STRENGTHS : ∃ u, mg "STRENGTHS" = some u ∧ RelV (.ref pS) u) (T : KdT K w pS stT ["", ")"])
    (M_Reader_take : DW.MtOk P w K mg base 1 C "take" ["self"] (spF K Tb (rdFm K C) R_tkr)) (M_Reader_peek : DW.MtOk P w K mg base 1 C "peek" ["self"] (spF K Tb (rdFm K C) R_pk))
    (M_Reader_read_operand : DW.MtOk P w K mg base j1 C "read_operand" ["self"] (spF K Tb (rdFm K C) (R_ro E0)))
    (M_Reader_read_expression : DW.MtOk P w K mg base j2 C "read_expression" ["self", "weakest"] (spF K Tb (rdFm K C) (R_re X))) :
    DW.MtOk P w K mg base (J + 1) C "read_expression" ["self", "weakest"] (spF K Tb (rdFm K C) (R_re (RdEx E0 X))) := by
  refine mt_F Fn sc_Reader_read_expression hM hb (fun s ds s' d h => by obtain ⟨_, _, _, _, _, _, rfl, _⟩ := h; rfl) fun cdv A outer s H Ek hr => ⟨_, (pss_cons (ps_expr (pe_mtM0 M_Reader_read_operand CL_Reader hr (by first | decide | exact Nat.le_refl _ | omega) (pv 0)))
      (pss_one (ps_while PassesOwn.never (pt_cmpR op_ge (pe_kget2 (pe_gc C_STRENGTHS (by rfl)) (pe_mtM0 M_Reader_peek CL_Reader hr (by first | decide | exact Nat.le_refl _ | omega) (pv 0)) pe_int (M2.mk (by rfl) (by rfl) (by rfl) (by rfl))) (pv 1) (nomark _)) (pss_cons (ps_asg (pe_mtM0 M_Reader_take CL_Reader hr (by first | decide | exact Nat.le_refl _ | omega) (pv 0)) (pg_tupK (n := 3) K rfl (pgs_cons (pg_name (i := 2) sc_Reader_read_expression.nd rfl (by first | exact .inl rfl | exact .inr rfl)) (pgs_cons (pg_name (i := 3) sc_Reader_read_expression.nd rfl (by first | exact .inl rfl | exact .inr rfl)) (pgs_cons (pg_name (i := 4) sc_Reader_read_expression.nd rfl (by first | exact .inl rfl | exact .inr rfl)) pgs_nil)))))
      (pss_cons (ps_expr (pe_mtM M_Reader_read_expression CL_Reader hr (by first | decide | exact Nat.le_refl _ | omega) (pv 0) (pa_cons (pe_op (uAddK K) (pe_kix K w (pe_gc C_STRENGTHS (by rfl)) (pv 3) (fun _ _ => rfl)) pe_int) pa_nil)))
      (pss_one (ps_expr (pe_bm PySem.F.plainAttrs_list PySem.F.slot_list_append PySem.F.type_list_append mt_append (pe_fldK K (pv 0)) (pa_cons (pe_tup (pa_cons (pe_tup (pa_cons pe_str (pa_cons (pv 3) pa_nil))) (pa_cons (pv 4) pa_nil))) pa_nil))))))))),  fun i s ds s' d F0 H0 Q r rt => ?_⟩
  obtain ⟨wk, ts, ml, r, ms, rfl, rfl, rfl, ⟨m1, r1, m2, ho, hw, rfl⟩, hz, rfl⟩ := r
  have lo := rdob_len hE ho
  show SR _ _ _ [.raw (.ref ((rdFm K C).ad i)), .fz (.int wk), .un, .un, .un] _
  refine r_expr (er_meth (s1 := (ts, ms)) (s' := (r1, ms ++ m1)) (R := R_ro E0) rfl ar_nil (rd_no (b := ⟨K, Tb, F0, H0, F0⟩) (by decide)) ⟨ts, m1, r1, ms, rfl, rfl, rfl, ho, hz, rfl⟩) ?_
  have lm : (ms ++ m1).length = ms.length + m1.length := List.length_append
  refine sr_while (α := List MkT × List MkT × List Tkn) (fun a => [.raw (.ref ((rdFm K C).ad i)), .fz (.int wk), .un, .un, .un]) (fun a => (rdFm K C).Γ i (a.2.2, a.1)) (fun a => RdW X wk a.2.2 a.2.1 r ∧ a.1 ++ a.2.1 = ms ++ (m1 ++ m2) ∧ a.1.length + a.2.2.length ≤ 20000) (fun a => a.2.2.length) (ms ++ m1, m2, r1) ⟨hw, List.append_assoc _ _ _, by show (ms ++ m1).length + r1.length ≤ 20000; omega⟩ rfl (Wk.refl _) ?_
  rintro ⟨dn, rs, ts⟩ ⟨h1, h2, h3⟩
  have h1 : RdW X wk ts rs r := h1
  have h2 : dn ++ rs = ms ++ (m1 ++ m2) := h2
  have h3 : dn.length + ts.length ≤ 20000 := h3
  cases h1 with
  | stop ts x hx hs lt =>
    refine ⟨decide (wk ≤ stS x), (rdFm K C).Γ i (r, dn), tr_test (er_op (er_kget T (er_pk rfl hx) ?_) (er_E fun _ _ _ _ => e_var rfl) ge_i rfl), fun z => absurd (of_decide_eq_true z) (by omega), fun z => ?_⟩
    · rcases hs with hs | rfl | rfl
      · exact .inl (st_in x hs)
      · exact .inr ⟨by decide, by rw [st_no.1]⟩
      · exact .inr ⟨by decide, by rw [st_no.2]⟩
    · rw [List.append_nil] at h2
      subst h2
      exact nr_ret rt
  | more t sg ts a1 q1 a2 q2 hv hs ge g1 g2 =>
    have rg := st_rg sg hs
    have lg := hX _ _ _ _ g1
    have e1 : (t :: ts).length = ts.length + 1 := rfl
    refine ⟨decide (wk ≤ stS sg), (rdFm K C).Γ i (t :: ts, dn), tr_test (er_op (er_kget T (er_pk rfl (by show txV t.v = _; rw [hv]; rfl)) (.inl (st_in sg hs))) (er_E fun _ _ _ _ => e_var rfl) ge_i rfl), fun z => ?_, fun z => absurd ge (of_decide_eq_false z)⟩
    refine r_asgT (er_tkD (d := .tuple [.str t.k, .str sg, .int (t.n : Nat)]) rfl (by unfold tokD; rw [hv])) (fun F1 H1 Fl => g_tup (gs_cons g_name (gs_cons g_name (gs_cons g_name gs_nil))) rfl) ?_
    show SR _ _ _ [.raw (.ref ((rdFm K C).ad i)), .fz (.int wk), .fz (.str t.k), .fz (.str sg), .fz (.int (t.n : Nat))] _
    refine r_expr (er_meth (s1 := (ts, dn)) (s' := (q1, dn ++ a1)) (R := R_re X) rfl (ar_A fun _ _ _ _ => a_cons (e_op (e_kix T (e_var rfl) (st_in sg hs)) e_int add_i) a_nil) (rd_no (b := ⟨K, Tb, F0, H0, F0⟩) (by decide)) ⟨stS sg + 1, ts, a1, q1, dn, rfl, rfl, rfl, g1, by omega, rfl⟩) ?_
    have l2 : (dn ++ a1).length = dn.length + a1.length := List.length_append
    have l3 : ((dn ++ a1) ++ [((.bi sg, t.n) : MkT)]).length = dn.length + a1.length + 1 := by rw [List.length_append, l2]; rfl
    exact sr_mark rfl CL_Reader N3 (er_E fun _ _ _ _ => e_tup (a_cons (e_tup (a_cons e_str (a_cons (e_var rfl) a_nil)) (Nat.le_of_ble_eq_true rfl)) (a_cons (e_var rfl) a_nil)) (Nat.le_of_ble_eq_true rfl)) (by omega) (nr_end (a := ((dn ++ a1) ++ [(.bi sg, t.n)], a2, q1)) ⟨⟨g2, by rw [← h2]; simp [List.append_assoc], by show ((dn ++ a1) ++ [((.bi sg, t.n) : MkT)]).length + q1.length ≤ 20000; omega⟩, by show q1.length < (t :: ts).length; omega⟩ (.keep rfl (.keep rfl (.drop (.drop (.drop .nil))))))
end
/-! ### Reader made, and set going -/
def spRi (K : PySem.W.Frag) (Tb : List Addr) (C : Addr) : Sp := fun vs H Q _ => ∃ F a dx toks v, vs = [.ref a, v] ∧ Sub F H ∧ F a = none ∧ (∀ P ∈ Tb, GxR.TabG H P) ∧ H a = some (.ins C dx []) ∧ Dp K F v (.list (List.map tokD toks)) ∧
  ∀ F' H' l, Stp F (L2.del H a) F' H' → H l = none → (rdG K C a dx l (toks, [])).Ψ F' H' → Q .non H'
def rd2 (toks : List Tkn) : List (Str × PyData) := [("found", .list (toks.map tokD)), ("at", .int 0)]
section
variable {P : Program} {w : World} {K : PySem.W.Frag} {mg : Str → Option Value} {base : Heap} {f C : Addr} {fd : FuncData} {Tb : List Addr} {k : Nat}
theorem rd_new2 (toks : List Tkn) : ptFd "at" (.int 0) (ptFd "found" (.list (toks.map tokD)) []) = rd2 toks := by
  unfold rd2
  rw [ptFd, ptFd, if_neg (by decide), ptFd]
theorem ok_ri (Fn : Fun K "__init__" "Reader.__init__" s_Reader_init f fd) (Z : Zb mg) (CL_Reader : Cls K C) (N1 : NoAttr K C "found") (N2 : NoAttr K C "at") (N3 : NoAttr K C "marks") :
    FnOk P w K mg base CX0 1 f fd ["self", "found"] (spRi K Tb C) := by
  refine Fn.ok sc_Reader_init (fun vs H Q E h => ?_) (fun cdv A outer s H vs Q Ek hr h => ?_)
  · obtain ⟨_, _, _, _, _, rfl, _⟩ := h; rfl
  obtain ⟨F, a, dx, toks, v, rfl, sb, hF, ht, hH, hd, q⟩ := h
  have hs := holds_startM (n0 := "self") (N := ["found"]) (ds := [.list (toks.map tokD)]) (us := [v]) (fs := []) sb hF ht hH ⟨rfl, .nil⟩ (.cons hd .nil)
  have body : ∃ t, PSs (cxOf CX0 P w K mg base N_Reader_init "Reader.__init__" (defScope s_Reader_init) f cdv A outer s H Ek).nox (defBody s_Reader_init) t ∧ S ⟨K, Tb, F, L2.del H a, F⟩ t { nx := fun _ H' => Q .non H', rt := Q } [.ob (insC K a C dx []), .fz (.list (toks.map tokD))] := by
    refine ⟨_, (pss_cons (ps_fldK K (pv 0) (pv 1))
      (pss_cons (ps_fldK K (pv 0) pe_int)
      (pss_one (ps_fldK K (pv 0) (pe_lst pa_nil))))),  ?_⟩
    refine q_fldM rfl (e_var rfl) CL_Reader N1 (by decide) ?_
    refine q_fldM rfl e_int CL_Reader N2 (Nat.le_of_ble_eq_true rfl) ?_
    show S _ _ _ [.ob (insC K a C dx (ptFd "at" (.int 0) (ptFd "found" (.list (toks.map tokD)) []))), .fz (.list (toks.map tokD))]
    rw [rd_new2]
    intro σ F1 H1 hh
    refine el_lst (ds := []) (ta := tNil) a_nil (by decide) σ F1 H1 hh _ fun l vs F2 H2 s2 hl0 hlF hlH hv => ?_
    cases hv
    have hh2 := hh.mono s2
    obtain ⟨ws, eo, h0, hF2, hH2, fo⟩ := ins_own (i := 0) hh2 rfl
    obtain ⟨vf, rfl⟩ : ∃ vf, ws = ([("found", vf), ("at", V.int 0)] : List (Str × V)) := by
      have e := fo.ns
      have e2 := fo.ds
      match ws, e, e2 with
      | [(n1, v1), (n2, v2)], e, e2 =>
        injection e with e1 e3
        injection e3 with e3 _
        have e1 : n1 = "found" := e1
        have e3 : n2 = "at" := e3
        subst e1 e3
        cases e2 with
        | cons x1 x2 => cases x2 with
          | cons x2 _ => cases x2; exact ⟨v1, rfl⟩
    have al : a ≠ l := fun z => by
      obtain ⟨ws', _, _, _, hHa, _⟩ := ins_own (i := 0) hh rfl
      rw [z, hl0] at hHa; cases hHa
    have hl : H l = none := by
      have := old_free hh.st hl0
      rw [show (⟨K, Tb, F, L2.del H a, F⟩ : Gd).H0 = L2.del H a from rfl, DW.del_ne (Ne.symm al)] at this
      exact this
    refine ⟨.ref a, eo, a, C, dx, _, rfl, hH2, CL_Reader, N3, by show 2 < 1000; decide, ?_⟩
    have dv : Dp K F2 vf (.list (toks.map tokD)) := by
      obtain ⟨v', e1, e2⟩ := FsOk.get (n := "found") (d := .list (toks.map tokD)) fo rfl
      cases e1; exact e2
    refine q F2 _ l (hh2.st.mut h0 hF2 hH2 fun _ z => by cases z) hl ⟨vf, [], toks, 0, upd_same, dv, rfl, Nat.zero_le _, ?_, .nil, hF2, hlF, al⟩
    rw [upd_ne (Ne.symm al)]; exact hlH
  obtain ⟨t, h1, h2⟩ := body
  exact ⟨t, h1, h2 _ F H hs⟩
/-- r = Reader(found); r.read_expression(1) -/
theorem q_reader {g : Gd} {G : List Sl} {te : TE} {toks : List Tkn} {X : RdP} {ml : List MkT} {r : List Tkn} {i : Nat} {tw : TS} {D : Ends} {Ek Ek2 : XK} {C : Addr} (ha : E g te G (.list (toks.map tokD))) (hi : i < G.length) (rd : X 1 toks ml r) (hz : toks.length ≤ 20000)
    (k : ∀ a dx (rst : Nat) (fnd : List Tkn), S g tw D (G.set i (.ob (insC g.K a C dx [("found", .list (fnd.map tokD)), ("at", .int (rst : Nat)), ("marks", .list (ml.map rmD))])))) :
    S g (tSeq (tAsg (tMake C (spRi g.K g.T C) [] Ek (tCons te tNil)) (gName i)) (tSeq (tDrop (tMeth C "read_expression" (spF g.K g.T (rdFm g.K C) (R_re X)) [] Ek2 (tVar i) (tCons (tC (.int 1)) tNil))) tw)) D G := fun σ F H hh => ha σ F H hh _ fun v F1 H1 s1 d1 => by
  intro a dx ha0 hd0 hne
  have hh1 := hh.mono s1
  have st1 : Stp F1 H1 F1 (upd H1 dx (.own a)) := Stp.mine hh1.st.i hd0
  have ha1 : upd H1 dx (.own a) a = none := by rw [upd_ne (Ne.symm hne)]; exact ha0
  have st2 : Stp F1 (upd H1 dx (.own a)) F1 (upd (upd H1 dx (.own a)) a (.ins C dx [])) := Stp.mine st1.i ha1
  have hh2 := (hh1.mono st1).mono st2
  have hF : F1 a = none := hh1.st.i.free ha0
  refine ⟨F1, a, dx, toks, v, rfl, st2.i, hF, hh2.tab, upd_same, d1, fun F2 H2 l s2 hl p2 => ?_⟩
  have ed : L2.del (upd (upd H1 dx (.own a)) a (.ins C dx [])) a = upd H1 dx (.own a) := by
    funext b
    by_cases hb : b = a
    · rw [hb, DW.del_same, ha1]
    · rw [DW.del_ne hb, upd_ne hb]
  rw [ed] at s2
  have al : l ≠ a := fun z => by rw [z, upd_same] at hl; cases hl
  have hl1 : H1 l = none := by
    rw [upd_ne al] at hl
    by_cases hb : l = dx
    · rw [hb]; exact hd0
    · rw [upd_ne hb] at hl; exact hl
  have st := st1.trans s2
  have hh3 := hh1.mono st
  have hi2 : i < σ.length := by rw [hh1.len]; exact hi
  have hh4 := hh3.set (i := i) (s := .raw (.ref a)) (v := .ref a) rfl fun z => by cases z
  refine ⟨rfl, ?_⟩
  have hH2 : H2 a = some (.ins C dx (rdF3 (p2.choose) (p2.choose_spec.choose_spec.choose_spec.choose) l)) := p2.choose_spec.choose_spec.choose_spec.choose_spec.o
  have no : ∀ p, Own (G.set i (.raw (.ref a))) (σ.set i (some (.ref a))) p → ¬ rdL a l p := fun p o hp => by
    obtain ⟨j, t, e1, m, e2⟩ := o
    have hj : i ≠ j := fun z => by subst z; rw [List.getElem?_set_self hi] at e1; cases e1; cases m
    rw [List.getElem?_set_ne hj] at e1 e2
    rcases hp with rfl | rfl
    · exact new_ok hh1 ha0 j ⟨t, e1, m⟩ e2
    · exact new_ok hh1 hl1 j ⟨t, e1, m⟩ e2
  have fr : ∀ p, rdL a l p → g.H0 p = none := fun p hp => by
    rcases hp with rfl | rfl
    · exact old_free hh1.st ha0
    · exact old_free hh1.st hl1
  have hr : HR g (rdG g.K C a dx l (toks, [])) (G.set i (.raw (.ref a))) (σ.set i (some (.ref a))) F2 H2 := HR.fresh hh4 fr no p2
  have ei : (σ.set i (some (.ref a)))[i]? = some (some (V.ref a)) := List.getElem?_set_self hi2
  refine ⟨.ref a, ei, a, dx, _, rfl, hH2, rd_names (by decide), ?_⟩
  refine ⟨F2, (a, dx, l), [.int 1], (toks, []), [.int 1], (r, ml), .none, rfl, hh4.st.i, hh4.tab, p2, .cons (.int 1) .nil, ⟨1, toks, ml, r, [], rfl, rfl, rfl, rd, by show 0 + toks.length ≤ 20000; omega, rfl⟩, fun z F3 H3 s3 p3 d3 => ?_⟩
  have hr3 := del_wo (Γ' := rdG g.K C a dx l (r, ml)) hr s3 p3 fun P hP => s3.t P (tab_wo (b := g) p2 (hh4.tab P hP))
  have hb := hr3.back
  obtain ⟨vf, ws, fnd, q, p⟩ := p3
  have no3 : ∀ (j : Nat) (t : Sl), (G.set i (.raw (.ref a)))[j]? = some t → t.mine = true → (σ.set i (some (.ref a)))[j]? ≠ some (some (V.ref l)) := fun j t e1 m e2 => no l ⟨j, t, e1, m, e2⟩ (.inr rfl)
  have hb2 := hb.frzNew (fr l (.inr rfl)) p.fl p.m no3
  have ex : Ex F3 (upd F3 l (.lst ws)) := fun b u q _ => by rw [upd_ne (ne_of_none q p.fl)]; exact q
  have hb3 := hb2.set (i := i) (v := .ref a) (s := .ob (insC g.K a C dx [("found", .list (fnd.map tokD)), ("at", .int (q : Nat)), ("marks", .list (ml.map rmD))])) ⟨a, _, rfl, fr a (.inl rfl), by rw [upd_ne (Ne.symm al)]; exact p.fa, p.o, ins_nt, fun F' e => ⟨rfl, _, rfl, rfl, .cons (e.dp _ _ (ex.dp _ _ p.f)) (.cons (.int _) (.cons (e.dp _ _ (.lst (.inl (.inl upd_same)) (ex.dps _ _ p.w))) .nil))⟩⟩ fun _ j t hj e1 m e2 => no a ⟨j, t, e1, m, e2⟩ (.inl rfl)
  rw [List.set_set, List.set_set] at hb3
  exact k a dx q fnd _ _ H3 hb3
end
/-! ### the levels: brackets inside, signs outside -/
def RdNo : RdP := fun _ _ _ _ => False
/-- u: how many signs of growing strength may still be nested; E0: what stands in brackets -/
def EU (E0 : RdP) : Nat → RdP
  | 0 => RdNo
  | u + 1 => RdEx E0 (EU E0 u)
/-- d: how many brackets may still be opened -/
def ED : Nat → RdP
  | 0 => RdNo
  | d + 1 => EU (ED d) 6
theorem len_no : LenE RdNo := fun _ _ _ _ h => h.elim
theorem len_eu {E0 : RdP} (hE : LenE E0) : ∀ u, LenE (EU E0 u)
  | 0 => len_no
  | u + 1 => rdex_len hE (len_eu hE u)
theorem len_ed : ∀ d, LenE (ED d)
  | 0 => len_no
  | d + 1 => len_eu (len_ed d) 6
section
variable {P : Program} {w : World} {K : PySem.W.Frag} {mg : Str → Option Value} {base : Heap} {f C : Addr} {fd : FuncData} {Tb : List Addr} {k : Nat}
theorem mt_no {X : RdP} {j : Nat} (Fn : Fun K "read_expression" "Reader.read_expression" s_Reader_read_expression f fd) (hM : Meth K C "read_expression" f) (hb : Binds K fd ["self", "weakest"] []) (no : ∀ w ts ml r, ¬ X w ts ml r) :
    DW.MtOk P w K mg base j C "read_expression" ["self", "weakest"] (spF K Tb (rdFm K C) (R_re X)) :=
  ⟨f, fd, hM, ⟨fun vs H Q E h => by obtain ⟨_, _, _, _, _, _, _, _, _, _, _, _, ⟨_, _, _, _, _, _, _, _, r, _⟩, _⟩ := h; exact absurd r (no _ _ _ _), fun A outer s H args us vs Q E _ _ _ _ h => by obtain ⟨_, _, _, _, _, _, _, _, _, _, _, _, ⟨_, _, _, _, _, _, _, _, r, _⟩, _⟩ := h; exact absurd r (no _ _ _ _)⟩, hb⟩
/-- what the text says of Reader's three methods that call each other -/
structure RdFns (P : Program) (w : World) (K : PySem.W.Frag) (mg : Str → Option Value) (base : Heap) (C : Addr) (Tb : List Addr) : Prop where
  re : ∀ {E0 X : RdP}, LenE E0 → LenE X → ∀ {J j1 j2 : Nat}, j1 ≤ J → j2 ≤ J → 5 ≤ J → DW.MtOk P w K mg base j1 C "read_operand" ["self"] (spF K Tb (rdFm K C) (R_ro E0)) → DW.MtOk P w K mg base j2 C "read_expression" ["self", "weakest"] (spF K Tb (rdFm K C) (R_re X)) →
    DW.MtOk P w K mg base (J + 1) C "read_expression" ["self", "weakest"] (spF K Tb (rdFm K C) (R_re (RdEx E0 X)))
  ro : ∀ {E0 : RdP}, LenE E0 → ∀ {j : Nat}, 5 ≤ j → DW.MtOk P w K mg base j C "read_expression" ["self", "weakest"] (spF K Tb (rdFm K C) (R_re E0)) → DW.MtOk P w K mg base (j + 2) C "read_operand" ["self"] (spF K Tb (rdFm K C) (R_ro E0))
  no : ∀ {X : RdP} (j : Nat), (∀ w ts ml r, ¬ X w ts ml r) → DW.MtOk P w K mg base j C "read_expression" ["self", "weakest"] (spF K Tb (rdFm K C) (R_re X))
theorem mt_eu (T : RdFns P w K mg base C Tb) {E0 : RdP} (hE : LenE E0) {j : Nat} (hj : 5 ≤ j) (M : DW.MtOk P w K mg base j C "read_operand" ["self"] (spF K Tb (rdFm K C) (R_ro E0))) : ∀ u, DW.MtOk P w K mg base (j + u) C "read_expression" ["self", "weakest"] (spF K Tb (rdFm K C) (R_re (EU E0 u)))
  | 0 => T.no _ fun _ _ _ _ h => h
  | u + 1 => T.re hE (len_eu hE u) (J := j + u) (by omega) (Nat.le_refl _) (by omega) M (mt_eu T hE hj M u)
theorem mt_ed (T : RdFns P w K mg base C Tb) : ∀ d, DW.MtOk P w K mg base (8 * d + 5) C "read_expression" ["self", "weakest"] (spF K Tb (rdFm K C) (R_re (ED d)))
  | 0 => T.no _ fun _ _ _ _ h => h
  | d + 1 => by
    have h := mt_eu T (len_ed d) (j := 8 * d + 5 + 2) (by omega) (T.ro (len_ed d) (by omega) (mt_ed T d)) 6
    rw [show 8 * (d + 1) + 5 = 8 * d + 5 + 2 + 6 by omega]
    exact h
end
theorem pe_countK {X : Cx} {K : PySem.W.Frag} {o e : Expr} {apos cpos : Pos} {to te : TE} (hK : X.K = K) (hu : X.A.units + 64 < cLine) (ho : PE X o to) (he : PE X e te) (hbase : attributeBase o "count" X.env (eval o X.env) = eval o X.env)
    (hs : starEach [e] X.env = (false, eval e X.env) :: starEach [] X.env) (hline : (apos.endLine == cpos.line) = true) : PE X (.Call (.Attribute o "count" apos) [e] [] cpos) (tBM K "list" (rCount K) to (tCons te tNil)) := by
  subst hK
  exact pe_bm PySem.F.plainAttrs_list PySem.F.slot_list_count PySem.F.type_list_count (mt_countK X.K hu) ho (pa_cons he pa_nil (hs := hs)) (hbase := hbase) (hline := hline) (hs := hs) (hfew := by rw [hs]; rfl)
/-! ### kind_of, count_of, metrics -/
def JS : List Str := ["or", "and", "unless"]
def AS : List Str := ["+", "-", "*"]
theorem joins_JS (s : Str) : joins s = decide (s ∈ JS) := by
  have e : joins s = decide (s ∈ (["and", "or", "unless"] : List Str)) := inD_str s ["and", "or", "unless"]
  rw [e]
  refine decide_eq_decide.mpr ⟨fun h => ?_, fun h => ?_⟩
  · simp only [JS, List.mem_cons, List.not_mem_nil, or_false] at h ⊢
    rcases h with h | h | h
    · exact .inr (.inl h)
    · exact .inl h
    · exact .inr (.inr h)
  · simp only [JS, List.mem_cons, List.not_mem_nil, or_false] at h ⊢
    rcases h with h | h | h
    · exact .inr (.inl h)
    · exact .inl h
    · exact .inr (.inr h)
theorem ariths_AS (s : Str) : ariths s = decide (s ∈ AS) := inD_str s AS
theorem kib_nn {s : Str} {a b : Ki} (hn : (isND (kiD a) || isND (kiD b)) = false) (hj : joins s = false) (h : (eqN "vector" a || eqN "vector" b) = false) : kib s a b = if ariths s = true then .num else .no := by
  cases a <;> cases b <;> simp [ev1, ev2, ev3] at h <;> first | (cases hn; done) | simp [kib, hj]
theorem kib_vv {s : Str} {a b : Ki} (hn : (isND (kiD a) || isND (kiD b)) = false) (hj : joins s = false) (h : (eqN "vector" a || eqN "vector" b) = true) : kib s a b = .vec := by
  cases a <;> cases b <;> simp [ev1, ev2, ev3] at h <;> first | (cases hn; done) | simp [kib, hj]
section
variable {P : Program} {w : World} {K : PySem.W.Frag} {mg : Str → Option Value} {base : Heap} {f : Addr} {fd : FuncData} {Tb : List Addr} {k : Nat}
def R_bk : List PyData → PyData → Prop := fun ds d => ∃ (s : Str) (a b : Ki), ds = [.str s, kiD a, kiD b] ∧ d = kiD (kib s a b)
theorem ok_bk {pJ pA : Addr} (Fn : Fun K "binary_kind" "binary_kind" s_binary_kind f fd) (hm : mg "binary_kind" = some (.ref f)) (hb : Binds K fd ["sign", "left", "right"] []) (Z : Zb mg)
    (TJ : TcOk K mg "JOINING_SIGNS" pJ JS) (TA : TcOk K mg "ARITHMETIC_SIGNS" pA AS) :
    Df P w K mg base 1 "binary_kind" ["sign", "left", "right"] (spD K Tb R_bk) := by
  have C_JOINING_SIGNS := TJ.c
  have C_ARITHMETIC_SIGNS := TA.c
  refine df_D Fn sc_binary_kind hm hb (fun ds d h => by obtain ⟨_, _, _, rfl, _⟩ := h; rfl) fun cdv A outer s H Ek hr => ⟨_, (pss_cons (ps_if (PW.pt (pw_or (pt_cmpR uIsN (pv 1) pe_non (nomark _)) (pw_or1 (pt_cmpR uIsN (pv 2) pe_non (nomark _))))) (pss_one (ps_ret pe_non)) pss_nil)
      (pss_cons (ps_if (pt_cmpR (uInK K) (pv 0) (pe_gc C_JOINING_SIGNS (by rfl)) (by rfl)) (pss_one (ps_ret (pe_ifExp (pt_chain (uEqK K hr.units) (uEqK K hr.units) (pv 1) (pv 2) pe_str) pe_str pe_non))) pss_nil)
      (pss_cons (ps_if (PW.pt (pw_or (pt_cmpR (uEqK K hr.units) (pv 1) pe_str (nomark _)) (pw_or1 (pt_cmpR (uEqK K hr.units) (pv 2) pe_str (nomark _))))) (pss_one (ps_ret pe_str)) pss_nil)
      (pss_one (ps_ret (pe_ifExp (pt_cmpR (uInK K) (pv 0) (pe_gc C_ARITHMETIC_SIGNS (by rfl)) (by rfl)) pe_str pe_non)))))),  fun ds d F0 H0 Q r rt => ?_⟩
  obtain ⟨sg, a, b, rfl, rfl⟩ := r
  refine q_if (b := isND (kiD a) || isND (kiD b)) (t_or (t_test (b_op (E.b (e_var rfl)) (E.b e_non) is_n rfl)) fun _ => t_test (b_op (E.b (e_var rfl)) (E.b e_non) is_n rfl)) (fun h => ?_) fun h => s_next (n_go ?_)
  · rw [kib_no h] at rt; exact s_ret e_non rt
  have eqt : ∀ {g : Gd} {G : List Sl} {i : Nat} {q : Ki} {wd : Str}, G[i]? = some (.fz (kiD q)) → T g (tTest (tOp (rEqU g.K) (tVar i) (tC (.str wd)))) G (eqN wd q) := fun h => t_test (b_op (E.b (e_var h)) (E.b e_str) (eq_ki _) rfl)
  refine q_if (b := joins sg) (t_test (by rw [joins_JS, ← inD_str]; exact b_op (E.b (e_var rfl)) (E.b (e_tc TJ)) (in_t rfl (scal_strs JS)) rfl)) (fun hj => ?_) fun hj => s_next (n_go ?_)
  · cases a with
    | no => cases h
    | num => cases b with
      | no => cases h
      | num =>
        rw [show kib sg .num .num = .no by simp [kib, hj]] at rt
        exact s_ret (e_if (b := decide (("number" : Str) = "number") && decide (("number" : Str) = "vector")) (t_test (e_chain (E.b (e_var rfl)) (E.b (e_var rfl)) (fun _ => E.b e_str) eq_s fun _ => eq_s)) (fun z => by rw [decide_eq_false kw6.1, Bool.and_false] at z; cases z) fun _ => e_non) rt
      | vec =>
        rw [show kib sg .num .vec = .no by simp [kib, hj]] at rt
        exact s_ret (e_if (b := decide (("number" : Str) = "vector") && decide (("vector" : Str) = "vector")) (t_test (e_chain (E.b (e_var rfl)) (E.b (e_var rfl)) (fun _ => E.b e_str) eq_s fun _ => eq_s)) (fun z => by rw [decide_eq_false kw6.1] at z; cases z) fun _ => e_non) rt
    | vec => cases b with
      | no => cases h
      | num =>
        rw [show kib sg .vec .num = .no by simp [kib, hj]] at rt
        exact s_ret (e_if (b := decide (("vector" : Str) = "number") && decide (("number" : Str) = "vector")) (t_test (e_chain (E.b (e_var rfl)) (E.b (e_var rfl)) (fun _ => E.b e_str) eq_s fun _ => eq_s)) (fun z => by rw [decide_eq_false kw6.2] at z; cases z) fun _ => e_non) rt
      | vec =>
        rw [show kib sg .vec .vec = .vec by simp [kib, hj]] at rt
        exact s_ret (e_if (b := decide (("vector" : Str) = "vector") && decide (("vector" : Str) = "vector")) (t_test (e_chain (E.b (e_var rfl)) (E.b (e_var rfl)) (fun _ => E.b e_str) eq_s fun _ => eq_s)) (fun _ => e_str) fun z => by rw [decide_eq_true rfl] at z; cases z) rt
  · refine q_if (b := eqN "vector" a || eqN "vector" b) (t_or (eqt rfl) fun _ => eqt rfl) (fun h2 => ?_) fun h2 => s_next (n_go ?_)
    · rw [kib_vv h hj h2] at rt; exact s_ret e_str rt
    · rw [kib_nn h hj h2] at rt
      refine s_ret (e_if (b := ariths sg) (t_test (by rw [ariths_AS, ← inD_str]; exact b_op (E.b (e_var rfl)) (E.b (e_tc TA)) (in_t rfl (scal_strs AS)) rfl)) (fun z => ?_) fun z => ?_) rt
      · rw [if_pos z]; exact e_str
      · rw [if_neg (by rw [z]; decide)]; exact e_non
def R_ak : List PyData → PyData → Prop := fun ds d => ∃ a : Ki, ds = [kiD a] ∧ d = kiD (if eqN "vector" a = true then .vec else .no)
theorem ok_ak (Fn : Fun K "aggregate_kind" "aggregate_kind" s_aggregate_kind f fd) (hm : mg "aggregate_kind" = some (.ref f)) (hb : Binds K fd ["inner"] []) (Z : Zb mg) :
    Df P w K mg base 1 "aggregate_kind" ["inner"] (spD K Tb R_ak) := by
  refine df_D Fn sc_aggregate_kind hm hb (fun ds d h => by obtain ⟨_, rfl, _⟩ := h; rfl) fun cdv A outer s H Ek hr => ⟨_, (pss_one (ps_ret (pe_ifExp (pt_cmpR (uEqK K hr.units) (pv 0) pe_str (nomark _)) pe_str pe_non))),  fun ds d F0 H0 Q r rt => ?_⟩
  obtain ⟨a, rfl, rfl⟩ := r
  refine s_ret (e_if (b := eqN "vector" a) (t_test (b_op (E.b (e_var rfl)) (E.b e_str) (eq_ki _) rfl)) (fun z => ?_) fun z => ?_) rt
  · rw [if_pos z]; exact e_str
  · rw [if_neg (by rw [z]; decide)]; exact e_non
end
/-! ### the checks of the marks -/
def wdX : Sx → Str
  | .lf e => wrd e
  | .ag _ _ => "aggregate"
  | .bi _ => "binary"
theorem sx_hd (x : Sx) : ∃ l, sxD x = .tuple l ∧ atI l 0 = some (.str (wdX x)) := by
  cases x with
  | lf e => exact ex_tup e
  | ag w ns => exact ⟨_, rfl, rfl⟩
  | bi s => exact ⟨_, rfl, rfl⟩
theorem e_hd {g : Gd} {G : List Sl} {te : TE} {x : Sx} (h : E g te G (sxD x)) : E g (tOp (rIx g.K) te (tC (.int 0))) G (.str (wdX x)) := by
  obtain ⟨l, e, h0⟩ := sx_hd x
  rw [e] at h
  exact e_op h e_int (ix_t h0)
theorem t_hd {g : Gd} {G : List Sl} {i : Nat} {x : Sx} (h : G[i]? = some (.fz (sxD x))) (y : Str) : T g (tTest (tOp (rEqU g.K) (tOp (rIx g.K) (tVar i) (tC (.int 0))) (tC (.str y)))) G (decide (wdX x = y)) := t_test (b_op (E.b (e_hd (e_var h))) (E.b e_str) eq_s rfl)
def bigM (ms : List Mt) : Bool := decide (6 < ms.length) || ms.any fun m => decide (6 < m.2.1.length)
def bigS : Sx → Bool
  | .ag _ ns => decide (6 < ns.length)
  | .lf (.lat _ ms) => bigM ms
  | .lf (.ovr _ _ ms _) => bigM ms
  | _ => false
def cntW (w : Str) (ml : List MkT) : Nat := ml.countP fun m => decide (wdX m.1 = w)
def szB (ml : List MkT) : Bool := decide (6 < cntW "latest" ml + cntW "over" ml) || (decide (8 < cntW "binary" ml + cntW "aggregate" ml) || ml.any fun m => bigS m.1)
def spnF : List MkT → Option Nat
  | [] => none
  | m :: r => match m.1 with
    | .lf (.ovr _ _ _ v) => if 1 ≤ v ∧ v ≤ 1000 then spnF r else some m.2
    | _ => spnF r
def kiS : List Ki → Sx → Option (Ki × List Ki)
  | S, .lf (.num _) => some (.num, S)
  | S, .lf _ => some (.vec, S)
  | a :: S, .ag _ _ => some (if eqN "vector" a = true then .vec else .no, S)
  | r :: l :: S, .bi s => some (kib s l r, S)
  | _, _ => none
def knL : List Ki → List MkT → Option Nat
  | _, [] => none
  | S, m :: r => match kiS S m.1 with
    | none => none
    | some (.no, _) => some m.2
    | some (k, S') => knL (k :: S') r
def sdL : Nat → List Sx → Prop
  | _, [] => True
  | n, x :: r => tkn x ≤ n ∧ sdL (n - tkn x + 1) r
theorem sd_st : ∀ (e : Xp) (n : Nat) (r : List Sx), sdL (n + 1) r → sdL n (stF e ++ r)
  | .num _, n, r, h => ⟨Nat.zero_le _, h⟩
  | .lat _ _, n, r, h => ⟨Nat.zero_le _, h⟩
  | .ovr _ _ _ _, n, r, h => ⟨Nat.zero_le _, h⟩
  | .agg w ks e, n, r, h => by
    show sdL n ((stF e ++ [.ag w ks]) ++ r)
    rw [List.append_assoc]
    exact sd_st e n _ ⟨by show 1 ≤ n + 1; omega, h⟩
  | .bin s l q, n, r, h => by
    show sdL n ((stF l ++ stF q ++ [.bi s]) ++ r)
    rw [List.append_assoc, List.append_assoc]
    exact sd_st l n _ (sd_st q (n + 1) _ ⟨by show 2 ≤ n + 1 + 1; omega, by show sdL (n + 1 + 1 - 2 + 1) r; exact h⟩)
def exc2 (C : Addr) (f : Str) (p : Nat) : Out := .exc C [("place", .int (p : Nat)), ("fault", .str f)]
theorem pls_strs : ∀ l : List Str, PyData.plainAll (l.map .str) = true
  | [] => rfl
  | s :: l => by
    have := pls_strs l
    simp only [List.map_cons, PyData.plainAll, PyData.plain, Bool.true_and]; exact this
theorem dps_strs0 : ∀ l : List Str, PyData.depthAll (l.map .str) ≤ 1
  | [] => by simp [PyData.depthAll]
  | s :: l => by
    have := dps_strs0 l
    simp only [List.map_cons, PyData.depthAll, PyData.depth]; omega
theorem cnt_map (w : Str) (ml : List MkT) : (((ml.map fun m => wdX m.1).map PyData.str).countP fun y => PyData.eqv y (.str w)) = cntW w ml := by
  unfold cntW
  rw [List.countP_map, List.countP_map]
  refine congrArg (fun p => ml.countP p) (funext fun m => ?_)
  exact eqv_str _ _
def hdD : PyData → PyData
  | .tuple (.tuple (h :: _) :: _) => h
  | _ => .none
theorem hd_rm (m : MkT) : hdD (rmD m) = .str (wdX m.1) := by
  obtain ⟨l, e, h0⟩ := sx_hd m.1
  unfold rmD
  rw [e]
  cases l with
  | nil => cases h0
  | cons h l =>
    rw [show atI (h :: l) 0 = some h from by rw [at_nat (by decide) (by rw [List.length_cons]; exact Nat.succ_pos _)]; rfl] at h0
    injection h0 with h0
theorem heads_map : ∀ ml : List MkT, (ml.map rmD).filterMap (fun d => some (hdD d)) = (ml.map fun m => wdX m.1).map PyData.str
  | [] => rfl
  | m :: ml => by
    rw [List.map_cons, List.filterMap_cons, List.map_cons, List.map_cons, heads_map ml]
    show hdD (rmD m) :: _ = _
    rw [hd_rm]
theorem n_rt {g : Gd} {G : List Sl} {Q : VK} (rt : Rt g Q .none) : N g (fun _ H' => Q .non H') G := fun σ F H hh => rt .non F H hh.st .non
section
variable {P : Program} {w : World} {K : PySem.W.Frag} {mg : Str → Option Value} {base : Heap} {f : Addr} {fd : FuncData} {Tb : List Addr} {k : Nat}
def R_il : List PyData → PyData → Prop := fun ds d => ∃ x : Sx, ds = [sxD x] ∧ sxOk x ∧ d = .bool (bigS x)
theorem wd_lf {e : Xp} (h : leafX e) : wrd e ≠ "aggregate" ∧ wrd e ≠ "binary" := by
  cases e with
  | num _ => exact ⟨kw1.2.2.1, kw1.2.2.2⟩
  | lat _ _ => exact ⟨kw2.2.2.1, kw2.2.2.2⟩
  | ovr _ _ _ _ => exact ⟨kw3.2.2.1, kw3.2.2.2⟩
  | agg _ _ _ => exact h.elim
  | bin _ _ _ => exact h.elim
theorem ok_il {c Pt : Addr} (Fn : Fun K "is_large" "is_large" s_is_large f fd) (hm : mg "is_large" = some (.ref f)) (hb : Binds K fd ["step"] []) (Z : Zb mg)
    (C_MOST_NAMES : ∃ u, mg "MOST_NAMES" = some u ∧ RelV (.int 6) u) (C_MOST_MATCHERS : ∃ u, mg "MOST_MATCHERS" = some u ∧ RelV (.int 6) u) (C_MOST_VALUES : ∃ u, mg "MOST_VALUES" = some u ∧ RelV (.int 6) u)
    (hns : PySem.W.nsIn K mainGlobals "is_large" = some (some (.ref f))) (ht : PySem.W.tabIn K "is_large" = some (c, Pt)) (TB_is_large : GxR.TabB base mg c Pt) (hP : Pt ∈ Tb) :
    Df P w K mg base 2 "is_large" ["step"] (spD K Tb R_il) := by
  refine df_DT Fn hns ht sc_is_large hm hb (fun ds d h => by obtain ⟨_, rfl, _⟩ := h; rfl) fun A outer s H Ek hr => ⟨_, (pss_cons (ps_if (pt_cmpR (uEqK K hr.units) (pe_ix (ix_seqK K) (pv 0) pe_int (fun _ _ => rfl)) pe_str (nomark _)) (pss_one (ps_ret (pe_cmpR op_gt (pe_callB (uLenK K) (by rfl) Z.len (by decide +kernel) (pa_cons (pe_ix (ix_seqK K) (pv 0) pe_int (fun _ _ => rfl)) pa_nil)) (pe_gc C_MOST_NAMES (by rfl)) (nomark _)))) pss_nil)
      (pss_cons (ps_if (pt_cmpR (uNiK K) (pe_ix (ix_seqK K) (pv 0) pe_int (fun _ _ => rfl)) (pe_tup (pa_cons pe_str (pa_cons pe_str pa_nil))) (by rfl)) (pss_one (ps_ret pe_bl)) pss_nil)
      (pss_cons (ps_set (i := 1) sc_is_large.nd rfl (by first | exact .inl rfl | exact .inr rfl) (pe_ifExp (pt_cmpR (uEqK K hr.units) (pe_ix (ix_seqK K) (pv 0) pe_int (fun _ _ => rfl)) pe_str (nomark _)) (pe_ix (ix_seqK K) (pv 0) pe_int (fun _ _ => rfl)) (pe_ix (ix_seqK K) (pv 0) pe_int (fun _ _ => rfl))))
      (pss_one (ps_ret (pe_or (pe_cmpR op_gt (pe_callB (uLenK K) (by rfl) Z.len (by decide +kernel) (pa_cons (pv 1) pa_nil)) (pe_gc C_MOST_MATCHERS (by rfl)) (nomark _)) (pe_one (GA.pe_anyG (own := [("matcher", 2)]) hr (by rfl) sc_is_large.nd TB_is_large rfl (by rfl) Z.any (by decide +kernel) (blkOk_by (own := [("matcher", 2)]) (N := N_is_large) (sc := defScope s_is_large) (by decide +kernel)) (GA.genOk_by (by decide +kernel)) (pi_any (pv 1)) (fun _ _ _ _ _ _ _ => (pg_name (i := 2) sc_is_large.nd rfl (by first | exact .inl rfl | exact .inr rfl))) (fun _ _ _ _ _ _ _ hr => (pe_cmpR op_gt (pe_callB (uLenK K) (by rfl) Z.len (by decide +kernel) (pa_cons (pe_ix (ix_seqK K) (pv 2) pe_int (fun _ _ => rfl)) pa_nil)) (pe_gc C_MOST_VALUES (by rfl)) (nomark _))) (fun _ => rfl))))))))),  fun ds d F0 H0 Q r rt => ?_⟩
  obtain ⟨x, rfl, hx, rfl⟩ := r
  show S _ _ _ [.fz (sxD x), .un, .un]
  refine q_if (b := decide (wdX x = "aggregate")) (t_hd rfl _) (fun z => ?_) fun z => s_next (n_go ?_)
  · have z := of_decide_eq_true z
    cases x with
    | lf e => exact absurd z (wd_lf hx).1
    | bi s => exact absurd z (by show ("binary" : Str) ≠ "aggregate"; decide)
    | ag wo ns =>
      have lm : ((ns.map PyData.str).length : Int) = (ns.length : Int) := by rw [List.length_map]
      have e : bigS (.ag wo ns) = decide ((6 : Int) < ((ns.map PyData.str).length : Int)) := by
        show decide (6 < ns.length) = _
        rw [lm]
        exact decide_eq_decide.mpr (by omega)
      rw [e] at rt
      exact s_ret (b_op (E.b (b_cb (ab_cons (E.b (e_op (x := sxD (.ag wo ns)) (e_var rfl) e_int (ix_t rfl))) ab_nil) len_t rfl)) (E.b e_int) gt_i rfl) rt
  · have z := of_decide_eq_false z
    refine q_if (b := !decide (wdX x ∈ (["latest", "over"] : List Str))) (t_test (by rw [← inD_str]; exact b_op (E.b (e_hd (e_var rfl))) (E.b (e_tup (a_cons e_str (a_cons e_str a_nil)) (by decide))) (ni_t rfl rfl) rfl)) (fun z2 => ?_) fun z2 => s_next (n_go ?_)
    · have z2 : wdX x ∉ (["latest", "over"] : List Str) := by simpa using z2
      have e : bigS x = false := by
        cases x with
        | bi s => rfl
        | ag wo ns => exact absurd rfl z
        | lf e =>
          cases e with
          | num _ => rfl
          | lat _ _ => exact absurd (by decide : ("latest" : Str) ∈ (["latest", "over"] : List Str)) z2
          | ovr _ _ _ _ => exact absurd (by decide : ("over" : Str) ∈ (["latest", "over"] : List Str)) z2
          | agg _ _ _ => exact hx.elim
          | bin _ _ _ => exact hx.elim
      rw [e] at rt
      exact s_ret e_bl rt
    · have z2 : wdX x ∈ (["latest", "over"] : List Str) := of_decide_eq_true (by simpa only [Bool.not_eq_false'] using z2)
      obtain ⟨ms, eb, ea, em⟩ : ∃ ms, bigS x = bigM ms ∧ True ∧ ((wdX x = "latest" ∧ ∃ l, sxD x = .tuple l ∧ atI l 2 = some (msD ms)) ∨ (wdX x ≠ "latest" ∧ ∃ l, sxD x = .tuple l ∧ atI l 3 = some (msD ms))) := by
        cases x with
        | bi s => exact absurd z2 (by show ("binary" : Str) ∉ (["latest", "over"] : List Str); decide)
        | ag wo ns => exact absurd rfl z
        | lf e =>
          cases e with
          | num _ => exact absurd z2 (by show ("number" : Str) ∉ (["latest", "over"] : List Str); decide)
          | lat m ms => exact ⟨ms, rfl, trivial, .inl ⟨rfl, _, rfl, rfl⟩⟩
          | ovr wo m ms v => exact ⟨ms, rfl, trivial, .inr ⟨by show ("over" : Str) ≠ "latest"; decide, _, rfl, rfl⟩⟩
          | agg _ _ _ => exact hx.elim
          | bin _ _ _ => exact hx.elim
      refine q_asg (d := msD ms) (e_if (b := decide (wdX x = "latest")) (t_hd rfl _) (fun h => ?_) fun h => ?_) ?_
      · have h := of_decide_eq_true h
        rcases em with ⟨_, l, e1, e2⟩ | ⟨n, _⟩
        · exact e_op (x := .tuple l) (e_var (by rw [← e1]; rfl)) e_int (ix_t e2)
        · exact absurd h n
      · have h := of_decide_eq_false h
        rcases em with ⟨n, _⟩ | ⟨_, l, e1, e2⟩
        · exact absurd n h
        · exact e_op (x := .tuple l) (e_var (by rw [← e1]; rfl)) e_int (ix_t e2)
      show S _ _ _ [.fz (sxD x), .fz (msD ms), .un]
      have lm : ((ms.map mtD).length : Int) = (ms.length : Int) := by rw [List.length_map]
      let fq : PyData → Bool := fun d => match d with
        | .tuple [_, .tuple vs, _] => decide (6 < vs.length)
        | _ => false
      have e : bigM ms = (decide ((6 : Int) < ((ms.map mtD).length : Int)) || quantF true fq (ms.map mtD)) := by
        unfold bigM
        rw [quant_any, List.any_map, lm]
        congr 1
        · exact decide_eq_decide.mpr (by omega)
        · congr 1
          funext m
          show decide (6 < m.2.1.length) = decide (6 < (m.2.1.map PyData.str).length)
          rw [List.length_map]
      rw [eb, e] at rt
      refine s_ret (e_orV (b_op (E.b (b_cb (ab_cons (E.b (e_var rfl)) ab_nil) len_t rfl)) (E.b e_int) gt_i rfl) fun _ => e_quant (ix := [2]) hP fq (fun y => [.fz (sxD x), .fz (msD ms), .fz y]) (it_at (e_var rfl)) (fun F1 d hd => g_name) (by decide) fun F1 d hd => ?_) rt
      obtain ⟨m, _, rfl⟩ := List.mem_map.mp hd
      have lv : (((m.2.1.map PyData.str).length : Nat) : Int) = ((m.2.1.length : Nat) : Int) := by rw [List.length_map]
      have ef : fq (mtD m) = decide ((6 : Int) < (((m.2.1.map PyData.str).length : Nat) : Int)) := by
        show decide (6 < (m.2.1.map PyData.str).length) = _
        exact decide_eq_decide.mpr (by omega)
      rw [ef]
      exact b_op (E.b (b_cb (ab_cons (E.b (e_op (x := mtD m) (e_var rfl) e_int (ix_t rfl))) ab_nil) len_t rfl)) (E.b e_int) gt_i rfl
def szO (C : Addr) (ml : List MkT) (n : Nat) : Out := if szB ml = true then exc2 C "many" n else .val .none
def R_cz (C : Addr) : List PyData → Out → Prop := fun ds o => ∃ (ml : List MkT) (n : Nat), ds = [.list (ml.map rmD), .int (n : Nat)] ∧ ml.length ≤ 20000 ∧ (∀ m ∈ ml, sxOk m.1) ∧ o = szO C ml n
theorem ok_cz {C : Addr} (Fn : Fun K "check_sizes" "check_sizes" s_check_sizes f fd) (hm : mg "check_sizes" = some (.ref f)) (hb : Binds K fd ["marks", "end"] []) (Z : Zb mg)
    (C_MOST_SELECTORS : ∃ u, mg "MOST_SELECTORS" = some u ∧ RelV (.int 6) u) (C_MOST_OPERATORS : ∃ u, mg "MOST_OPERATORS" = some u ∧ RelV (.int 8) u)
    (XI_BadExpression : XiOk2 P w K mg base "BadExpression" C "fault" "place")
    (D_is_large : Df P w K mg base 2 "is_large" ["step"] (spD K Tb R_il)) :
    DfX P w K mg base 3 "check_sizes" ["marks", "end"] (spX K Tb (R_cz C)) := by
  refine df_X Fn sc_check_sizes hm hb (fun ds d h => by obtain ⟨_, _, rfl, _⟩ := h; rfl) fun cdv A outer s H Ek hr => ⟨_, (pss_cons (ps_setLc (i := 2) (own := [("mark", 5)]) (by rfl) sc_check_sizes.nd rfl rfl (sw_true rfl rfl rfl (by decide +kernel)) (pi_any (pv 0)) (blkOk_by (own := [("mark", 5)]) (N := N_check_sizes) (sc := defScope s_check_sizes) (by decide +kernel)) (fun _ _ _ _ _ => (pg_name (i := 5) sc_check_sizes.nd rfl (by first | exact .inl rfl | exact .inr rfl))) (fun _ _ _ _ _ => pts_nil) (fun _ _ _ _ _ => (pe_ix (ix_seqK K) (pe_ix (ix_seqK K) (pv 5) pe_int (fun _ _ => rfl)) pe_int (fun _ _ => rfl))))
      (pss_cons (ps_if (pt_cmpR op_gt (pe_op (uAddK K) (pe_countK (by rfl) hr.units (pv 2) pe_str (by rfl) (by rfl) (by rfl)) (pe_countK (by rfl) hr.units (pv 2) pe_str (by rfl) (by rfl) (by rfl))) (pe_gc C_MOST_SELECTORS (by rfl)) (nomark _)) (pss_one (ps_raiseI2 (W := fun cls d _ H => Ek cls d H) rfl XI_BadExpression hr (by first | decide | omega) (takes_of rfl rfl rfl rfl) (by rfl) (pa_cons pe_str (pa_cons (pv 1) pa_nil)))) pss_nil)
      (pss_cons (ps_if (pt_cmpR op_gt (pe_op (uAddK K) (pe_countK (by rfl) hr.units (pv 2) pe_str (by rfl) (by rfl) (by rfl)) (pe_countK (by rfl) hr.units (pv 2) pe_str (by rfl) (by rfl) (by rfl))) (pe_gc C_MOST_OPERATORS (by rfl)) (nomark _)) (pss_one (ps_raiseI2 (W := fun cls d _ H => Ek cls d H) rfl XI_BadExpression hr (by first | decide | omega) (takes_of rfl rfl rfl rfl) (by rfl) (pa_cons pe_str (pa_cons (pv 1) pa_nil)))) pss_nil)
      (pss_one (ps_for (passes_of rfl) rfl (pi_any (pv 0)) (pg_tupK (n := 2) K rfl (pgs_cons (pg_name (i := 3) sc_check_sizes.nd rfl (by first | exact .inl rfl | exact .inr rfl)) (pgs_cons (pg_name (i := 4) sc_check_sizes.nd rfl (by first | exact .inl rfl | exact .inr rfl)) pgs_nil))) (pss_one (ps_if (pt_truthK K (pe_df D_is_large hr (by first | decide | exact Nat.le_refl _ | omega) (by rfl) (pa_cons (pv 3) pa_nil)) (by intro _; rfl)) (pss_one (ps_raiseI2 (W := fun cls d _ H => Ek cls d H) rfl XI_BadExpression hr (by first | decide | omega) (takes_of rfl rfl rfl rfl) (by rfl) (pa_cons pe_str (pa_cons (pv 1) pa_nil)))) pss_nil))))))),  fun ds o F0 H0 Q r rt => ?_⟩
  obtain ⟨ml, n, rfl, hz, ok, rfl⟩ := r
  show S _ _ _ [.fz (.list (ml.map rmD)), .fz (.int (n : Nat)), .un, .un, .un, .un]
  have hd := heads_map ml
  have hl := pls_strs (ml.map fun m => wdX m.1)
  have hp := dps_strs0 (ml.map fun m => wdX m.1)
  refine q_asgL (ds := (ml.map fun m => wdX m.1).map PyData.str) (by
    rw [← hd]
    refine el_lc (ix := [5]) (fun d => some (hdD d)) (fun d => [.fz (.list (ml.map rmD)), .fz (.int (n : Nat)), .un, .un, .un, .fz d]) (it_al (e_var rfl)) (by rw [List.length_map]; omega) (fun F1 d hd => g_name) (by decide) (fun F1 d hd => t_yes) fun F1 d hd y hy => ?_
    cases hy
    obtain ⟨m, _, rfl⟩ := List.mem_map.mp hd
    rw [hd_rm]
    exact e_hd (x := m.1) (e_op (x := rmD m) (e_var rfl) e_int (ix_t rfl))) ?_
  show S _ _ _ [.fz (.list (ml.map rmD)), .fz (.int (n : Nat)), .ow ((ml.map fun m => wdX m.1).map PyData.str), .un, .un, .un]
  have cnt : ∀ (w : Str), E ⟨K, Tb, F0, H0, F0⟩ (tBM K "list" (rCount K) (tVar 2) (tCons (tC (.str w)) tNil)) [.fz (.list (ml.map rmD)), .fz (.int (n : Nat)), .ow ((ml.map fun m => wdX m.1).map PyData.str), .un, .un, .un] (.int ((cntW w ml : Nat) : Int)) := fun w => by
    rw [← cnt_map]
    exact e_count (b_ow rfl) e_str hl rfl (Nat.le_trans hp (by decide))
  unfold szO szB at rt
  refine q_if (b := decide ((6 : Int) < ((cntW "latest" ml : Nat) : Int) + ((cntW "over" ml : Nat) : Int))) (t_test (b_op (E.b (e_op (cnt _) (cnt _) add_i)) (E.b e_int) gt_i rfl)) (fun z => ?_) fun z => s_next (n_go ?_)
  · have z := of_decide_eq_true z
    rw [if_pos (by rw [decide_eq_true (by omega), Bool.true_or])] at rt
    exact s_raise2 e_str (e_var rfl) rt
  have z := of_decide_eq_false z
  rw [decide_eq_false (p := 6 < cntW "latest" ml + cntW "over" ml) (by omega), Bool.false_or] at rt
  refine q_if (b := decide ((8 : Int) < ((cntW "binary" ml : Nat) : Int) + ((cntW "aggregate" ml : Nat) : Int))) (t_test (b_op (E.b (e_op (cnt _) (cnt _) add_i)) (E.b e_int) gt_i rfl)) (fun z => ?_) fun z => s_next (n_go ?_)
  · have z := of_decide_eq_true z
    rw [if_pos (by rw [decide_eq_true (by omega), Bool.true_or])] at rt
    exact s_raise2 e_str (e_var rfl) rt
  have z := of_decide_eq_false z
  rw [decide_eq_false (p := 8 < cntW "binary" ml + cntW "aggregate" ml) (by omega), Bool.false_or] at rt
  refine s_for (α := Unit) (fun _ _ => [.fz (.list (ml.map rmD)), .fz (.int (n : Nat)), .un, .un, .un, .un]) (fun i _ => (ml.drop i).any (fun m => bigS m.1) = ml.any fun m => bigS m.1) (it_al (e_var rfl)) () rfl (.keep rfl (.keep rfl (.drop (.drop (.drop (.drop .nil)))))) (fun F1 i _ d hd p => ?_) fun _ p => ?_
  · obtain ⟨m, hm, rfl⟩ := map_get hd
    have hi : i < ml.length := (List.getElem?_eq_some_iff.mp hm).1
    have om := ok m (List.mem_of_getElem? hm)
    have p : (ml.drop i).any (fun m => bigS m.1) = ml.any fun m => bigS m.1 := p
    rw [drop_get hm, List.any_cons] at p
    refine ⟨_, _, g_tup (gs_cons g_name (gs_cons g_name gs_nil)) rfl, ?_⟩
    show S _ _ _ [.fz (.list (ml.map rmD)), .fz (.int (n : Nat)), .un, .fz (sxD m.1), .fz (.int (m.2 : Nat)), .un]
    refine s_if (b := bigS m.1) (t_tru (d := .bool (bigS m.1)) (E.b (e_call (ds := [sxD m.1]) (a_cons (e_var rfl) a_nil) ⟨m.1, rfl, om, rfl⟩)) rfl) (fun z => ?_) fun z => ?_
    · rw [z, Bool.true_or] at p
      rw [if_pos p.symm] at rt
      exact s_raise2 e_str (e_var rfl) rt
    · rw [z, Bool.false_or] at p
      exact s_next (n_end () p (.keep rfl (.keep rfl (.keep rfl (.drop (.drop (.keep rfl .nil)))))))
  · have p : (ml.drop (ml.map rmD).length).any (fun m => bigS m.1) = ml.any fun m => bigS m.1 := p
    rw [List.length_map, List.drop_length] at p
    rw [← p] at rt
    exact n_rt rt
def spO (C : Addr) (ml : List MkT) : Out := match spnF ml with
  | none => .val .none
  | some n => exc2 C "span" n
def R_csp (C : Addr) : List PyData → Out → Prop := fun ds o => ∃ ml : List MkT, ds = [.list (ml.map rmD)] ∧ (∀ m ∈ ml, sxOk m.1) ∧ o = spO C ml
theorem ok_csp {C : Addr} (Fn : Fun K "check_spans" "check_spans" s_check_spans f fd) (hm : mg "check_spans" = some (.ref f)) (hb : Binds K fd ["marks"] []) (Z : Zb mg)
    (C_LONGEST_SPAN : ∃ u, mg "LONGEST_SPAN" = some u ∧ RelV (.int 1000) u)
    (XI_BadExpression : XiOk2 P w K mg base "BadExpression" C "fault" "place") :
    DfX P w K mg base 3 "check_spans" ["marks"] (spX K Tb (R_csp C)) := by
  refine df_X Fn sc_check_spans hm hb (fun ds d h => by obtain ⟨_, rfl, _⟩ := h; rfl) fun cdv A outer s H Ek hr => ⟨_, (pss_one (ps_for (passes_of rfl) rfl (pi_any (pv 0)) (pg_tupK (n := 2) K rfl (pgs_cons (pg_name (i := 1) sc_check_spans.nd rfl (by first | exact .inl rfl | exact .inr rfl)) (pgs_cons (pg_name (i := 2) sc_check_spans.nd rfl (by first | exact .inl rfl | exact .inr rfl)) pgs_nil))) (pss_one (ps_if (PW.pt (pw_and (pt_cmpR (uEqK K hr.units) (pe_ix (ix_seqK K) (pv 1) pe_int (fun _ _ => rfl)) pe_str (nomark _)) (pw_and1 (pt_not (pt_chain op_le op_le pe_int (pe_ix (ix_seqK K) (pv 1) pe_int (fun _ _ => rfl)) (pe_gc C_LONGEST_SPAN (by rfl))))))) (pss_one (ps_raiseI2 (W := fun cls d _ H => Ek cls d H) rfl XI_BadExpression hr (by first | decide | omega) (takes_of rfl rfl rfl rfl) (by rfl) (pa_cons pe_str (pa_cons (pv 2) pa_nil)))) pss_nil)))),  fun ds o F0 H0 Q r rt => ?_⟩
  obtain ⟨ml, rfl, ok, rfl⟩ := r
  show S _ _ _ [.fz (.list (ml.map rmD)), .un, .un]
  unfold spO at rt
  refine s_for (α := Unit) (fun _ _ => [.fz (.list (ml.map rmD)), .un, .un]) (fun i _ => spnF (ml.drop i) = spnF ml) (it_al (e_var rfl)) () rfl (Wk.refl _) (fun F1 i _ d hd p => ?_) fun _ p => ?_
  · obtain ⟨m, hm, rfl⟩ := map_get hd
    have om := ok m (List.mem_of_getElem? hm)
    have p : spnF (ml.drop i) = spnF ml := p
    rw [drop_get hm] at p
    refine ⟨_, _, g_tup (gs_cons g_name (gs_cons g_name gs_nil)) rfl, ?_⟩
    show S _ _ _ [.fz (.list (ml.map rmD)), .fz (sxD m.1), .fz (.int (m.2 : Nat))]
    obtain ⟨x, n⟩ := m
    have cs : (wdX x ≠ "over" ∧ spnF ((x, n) :: ml.drop (i + 1)) = spnF (ml.drop (i + 1))) ∨ ∃ wo a b v, x = .lf (.ovr wo a b v) := by
      cases x with
      | ag wo ns => exact .inl ⟨by show ("aggregate" : Str) ≠ "over"; decide, rfl⟩
      | bi s => exact .inl ⟨by show ("binary" : Str) ≠ "over"; decide, rfl⟩
      | lf e =>
        cases e with
        | agg _ _ _ => exact om.elim
        | bin _ _ _ => exact om.elim
        | num v => exact .inl ⟨by show ("number" : Str) ≠ "over"; decide, rfl⟩
        | lat a b => exact .inl ⟨by show ("latest" : Str) ≠ "over"; decide, rfl⟩
        | ovr wo a b v => exact .inr ⟨wo, a, b, v, rfl⟩
    rcases cs with ⟨h, e⟩ | ⟨wo, a, b, v, rfl⟩
    · rw [e] at p
      exact s_if (b := decide (wdX x = "over") && true) (t_and (t_hd rfl _) fun z => absurd (of_decide_eq_true z) h) (fun z => by rw [decide_eq_false h] at z; cases z) fun z => s_next (n_end () p (.keep rfl (.drop (.drop .nil))))
    · have p : (if 1 ≤ v ∧ v ≤ 1000 then spnF (ml.drop (i + 1)) else some n) = spnF ml := p
      refine s_if (b := decide (("over" : Str) = "over") && !(decide ((1 : Int) ≤ v) && decide (v ≤ 1000))) (t_and (t_hd (x := .lf (.ovr wo a b v)) rfl _) fun _ => t_not (t_test (e_chain (E.b e_int) (E.b (e_op (x := sxD (.lf (.ovr wo a b v))) (e_var rfl) e_int (ix_t rfl))) (fun _ => E.b e_int) le_i fun _ => le_i))) (fun z => ?_) fun z => ?_
      · have z := (Bool.and_eq_true_iff.mp z).2
        have nz : ¬ (1 ≤ v ∧ v ≤ 1000) := fun h => by rw [decide_eq_true h.1, decide_eq_true h.2] at z; cases z
        rw [if_neg nz] at p
        rw [← p] at rt
        exact s_raise2 e_str (e_var rfl) rt
      · rw [decide_eq_true rfl, Bool.true_and] at z
        have yz : 1 ≤ v ∧ v ≤ 1000 := by
          have z : (decide ((1 : Int) ≤ v) && decide (v ≤ 1000)) = true := by simpa only [Bool.not_eq_false'] using z
          have z := Bool.and_eq_true_iff.mp z
          exact ⟨of_decide_eq_true z.1, of_decide_eq_true z.2⟩
        rw [if_pos yz] at p
        exact s_next (n_end () p (.keep rfl (.drop (.drop .nil))))
  · have p : spnF (ml.drop (ml.map rmD).length) = spnF ml := p
    rw [List.length_map, List.drop_length] at p
    rw [← p] at rt
    exact n_rt rt
def knO (C : Addr) (ml : List MkT) : Out := match knL [] ml with
  | none => .val .none
  | some n => exc2 C "kinds" n
def R_ckk (C : Addr) : List PyData → Out → Prop := fun ds o => ∃ ml : List MkT, ds = [.list (ml.map rmD)] ∧ ml.length ≤ 20000 ∧ (∀ m ∈ ml, sxOk m.1) ∧ sdL 0 (ml.map (·.1)) ∧ o = knO C ml
theorem ok_ckk {C : Addr} (Fn : Fun K "check_kinds" "check_kinds" s_check_kinds f fd) (hm : mg "check_kinds" = some (.ref f)) (hb : Binds K fd ["marks"] []) (Z : Zb mg)
    (XI_BadExpression : XiOk2 P w K mg base "BadExpression" C "fault" "place")
    (D_binary_kind : Df P w K mg base 1 "binary_kind" ["sign", "left", "right"] (spD K Tb R_bk))
    (D_aggregate_kind : Df P w K mg base 1 "aggregate_kind" ["inner"] (spD K Tb R_ak)) :
    DfX P w K mg base 3 "check_kinds" ["marks"] (spX K Tb (R_ckk C)) := by
  refine df_X Fn sc_check_kinds hm hb (fun ds d h => by obtain ⟨_, rfl, _⟩ := h; rfl) fun cdv A outer s H Ek hr => ⟨_, (pss_cons (ps_set (i := 1) sc_check_kinds.nd rfl (by first | exact .inl rfl | exact .inr rfl) (pe_lst pa_nil))
      (pss_one (ps_for (passes_of rfl) rfl (pi_any (pv 0)) (pg_tupK (n := 2) K rfl (pgs_cons (pg_name (i := 2) sc_check_kinds.nd rfl (by first | exact .inl rfl | exact .inr rfl)) (pgs_cons (pg_name (i := 3) sc_check_kinds.nd rfl (by first | exact .inl rfl | exact .inr rfl)) pgs_nil))) (Evl.pss_cut (ps_if (pt_cmpR (uEqK K hr.units) (pe_ix (ix_seqK K) (pv 2) pe_int (fun _ _ => rfl)) pe_str (nomark _)) (pss_one (ps_set (i := 4) sc_check_kinds.nd rfl (by first | exact .inl rfl | exact .inr rfl) pe_str)) (pss_one (ps_if (pt_cmpR (uEqK K hr.units) (pe_ix (ix_seqK K) (pv 2) pe_int (fun _ _ => rfl)) pe_str (nomark _)) (pss_cons (ps_set (i := 5) sc_check_kinds.nd rfl (by first | exact .inl rfl | exact .inr rfl) (pe_bm0 PySem.F.plainAttrs_list PySem.F.slot_list_pop PySem.F.type_list_pop mt_pop (pv 1)))
      (pss_one (ps_set (i := 4) sc_check_kinds.nd rfl (by first | exact .inl rfl | exact .inr rfl) (pe_df D_binary_kind hr (by first | decide | exact Nat.le_refl _ | omega) (by rfl) (pa_cons (pe_ix (ix_seqK K) (pv 2) pe_int (fun _ _ => rfl)) (pa_cons (pe_bm0 PySem.F.plainAttrs_list PySem.F.slot_list_pop PySem.F.type_list_pop mt_pop (pv 1)) (pa_cons (pv 5) pa_nil))))))) (pss_one (ps_if (pt_cmpR (uEqK K hr.units) (pe_ix (ix_seqK K) (pv 2) pe_int (fun _ _ => rfl)) pe_str (nomark _)) (pss_one (ps_set (i := 4) sc_check_kinds.nd rfl (by first | exact .inl rfl | exact .inr rfl) (pe_df D_aggregate_kind hr (by first | decide | exact Nat.le_refl _ | omega) (by rfl) (pa_cons (pe_bm0 PySem.F.plainAttrs_list PySem.F.slot_list_pop PySem.F.type_list_pop mt_pop (pv 1)) pa_nil)))) (pss_one (ps_set (i := 4) sc_check_kinds.nd rfl (by first | exact .inl rfl | exact .inr rfl) pe_str)))))))
      (pss_cons (ps_if (pt_cmpR uIsN (pv 4) pe_non (nomark _)) (pss_one (ps_raiseI2 (W := fun cls d _ H => Ek cls d H) rfl XI_BadExpression hr (by first | decide | omega) (takes_of rfl rfl rfl rfl) (by rfl) (pa_cons pe_str (pa_cons (pv 3) pa_nil)))) pss_nil)
      (pss_one (ps_expr (pe_bm PySem.F.plainAttrs_list PySem.F.slot_list_append PySem.F.type_list_append mt_append (pv 1) (pa_cons (pv 4) pa_nil))))))))),  fun ds o F0 H0 Q r rt => ?_⟩
  obtain ⟨ml, rfl, hz, ok, sd, rfl⟩ := r
  unfold knO at rt
  show S _ _ _ [.fz (.list (ml.map rmD)), .un, .un, .un, .un, .un]
  refine q_asgL (ds := []) (el_lst a_nil (by decide)) ?_
  show S _ _ _ [.fz (.list (ml.map rmD)), .ow [], .un, .un, .un, .un]
  refine s_for (α := List Ki) (fun _ S0 => [.fz (.list (ml.map rmD)), .ow (S0.reverse.map kiD), .un, .un, .un, .un]) (fun i S0 => knL S0 (ml.drop i) = knL [] ml ∧ sdL S0.length ((ml.drop i).map (·.1)) ∧ S0.length ≤ i) (it_al (e_var rfl)) [] ⟨rfl, sd, Nat.le_refl _⟩ (Wk.refl _) (fun F1 i S0 d hd p => ?_) fun S0 p => ?_
  · obtain ⟨m, hm, rfl⟩ := map_get hd
    have hi : i < ml.length := (List.getElem?_eq_some_iff.mp hm).1
    have om := ok m (List.mem_of_getElem? hm)
    obtain ⟨p1, p2, p3⟩ := p
    rw [drop_get hm] at p1 p2
    obtain ⟨x, n⟩ := m
    have p2 : sdL S0.length (x :: (ml.drop (i + 1)).map fun m : MkT => m.1) := p2
    obtain ⟨p2, p4⟩ := p2
    refine ⟨_, _, g_tup (gs_cons g_name (gs_cons g_name gs_nil)) rfl, ?_⟩
    show S _ _ _ [.fz (.list (ml.map rmD)), .ow (S0.reverse.map kiD), .fz (sxD x), .fz (.int (n : Nat)), .un, .un]
    obtain ⟨k0, S1, hk, ls⟩ : ∃ (k0 : Ki) (S1 : List Ki), kiS S0 x = some (k0, S1) ∧ S1.length = S0.length - tkn x := by
      cases x with
      | lf e => cases e <;> exact ⟨_, S0, rfl, rfl⟩
      | ag wo ns =>
        match S0, p2 with
        | a :: S1, _ => exact ⟨_, S1, rfl, rfl⟩
      | bi s =>
        match S0, p2 with
        | r :: l :: S1, _ => exact ⟨_, S1, rfl, rfl⟩
        | [_], h => exact absurd h (by show ¬ 2 ≤ 1; decide)
    refine s_cut [.fz (.list (ml.map rmD)), .ow (S1.reverse.map kiD), .un, .fz (.int (n : Nat)), .fz (kiD k0), .un] ?_ ?_
    · refine s_if (b := decide (wdX x = "number")) (t_hd rfl _) (fun z => ?_) fun z => ?_
      · have z := of_decide_eq_true z
        cases x with
        | ag wo ns => exact absurd z (by show ("aggregate" : Str) ≠ "number"; decide)
        | bi s => exact absurd z (by show ("binary" : Str) ≠ "number"; decide)
        | lf e =>
          cases e with
          | agg _ _ _ => exact om.elim
          | bin _ _ _ => exact om.elim
          | lat _ _ => exact absurd z (by show ("latest" : Str) ≠ "number"; decide)
          | ovr _ _ _ _ => exact absurd z (by show ("over" : Str) ≠ "number"; decide)
          | num v =>
            cases hk
            exact s_asg (d := kiD .num) e_str (n_end1 (.keep rfl (.keep rfl (.drop (.keep rfl (.keep rfl (.drop .nil)))))))
      refine s_if (b := decide (wdX x = "binary")) (t_hd rfl _) (fun z2 => ?_) fun z2 => ?_
      · have z2 := of_decide_eq_true z2
        cases x with
        | ag wo ns => exact absurd z2 (by show ("aggregate" : Str) ≠ "binary"; decide)
        | lf e => exact absurd z2 (wd_lf om).2
        | bi s =>
          match S0, p2, hk with
          | r :: l :: S2, _, hk =>
            cases hk
            have e1 : (r :: l :: S1).reverse.map kiD = (S1.reverse.map kiD ++ [kiD l]) ++ [kiD r] := by rw [List.reverse_cons, List.reverse_cons, List.map_append, List.map_append]; rfl
            rw [e1]
            refine q_pop (i := 1) (ds := S1.reverse.map kiD ++ [kiD l]) (d := kiD r) rfl (by decide) ?_
            show S _ _ _ [.fz (.list (ml.map rmD)), .ow (S1.reverse.map kiD ++ [kiD l]), .fz (sxD (.bi s)), .fz (.int (n : Nat)), .un, .fz (kiD r)]
            refine s_asgG (i := 1) (j := 4) (s' := .ow (S1.reverse.map kiD)) (d := kiD (kib s l r)) (eg_callD (ds := [.str s, kiD l, kiD r]) (ag_cons (e_op (x := sxD (.bi s)) (e_var rfl) e_int (ix_t rfl)) (ag_last (eg_pop rfl) (a_cons (e_var rfl) a_nil))) ⟨s, l, r, rfl, rfl⟩) (n_end1 (.keep rfl (.keep rfl (.drop (.keep rfl (.keep rfl (.drop .nil)))))))
          | [_], h, _ => exact absurd h (by show ¬ 2 ≤ 1; decide)
      refine s_if (b := decide (wdX x = "aggregate")) (t_hd rfl _) (fun z3 => ?_) fun z3 => ?_
      · have z3 := of_decide_eq_true z3
        cases x with
        | bi s => exact absurd rfl (of_decide_eq_false z2)
        | lf e => exact absurd z3 (wd_lf om).1
        | ag wo ns =>
          match S0, p2, hk with
          | a :: S2, _, hk =>
            cases hk
            have e1 : (a :: S1).reverse.map kiD = S1.reverse.map kiD ++ [kiD a] := by rw [List.reverse_cons, List.map_append]; rfl
            rw [e1]
            refine s_asgG (i := 1) (j := 4) (s' := .ow (S1.reverse.map kiD)) (d := kiD (if eqN "vector" a = true then .vec else .no)) (eg_callD (ds := [kiD a]) (ag_last (eg_pop rfl) a_nil) ⟨a, rfl, rfl⟩) (n_end1 (.keep rfl (.keep rfl (.drop (.keep rfl (.keep rfl (.drop .nil)))))))
      · cases x with
        | bi s => exact absurd rfl (of_decide_eq_false z2)
        | ag wo ns => exact absurd rfl (of_decide_eq_false z3)
        | lf e =>
          cases e with
          | agg _ _ _ => exact om.elim
          | bin _ _ _ => exact om.elim
          | num v => exact absurd rfl (of_decide_eq_false z)
          | lat _ _ =>
            cases hk
            exact s_asg (d := kiD .vec) e_str (n_end1 (.keep rfl (.keep rfl (.drop (.keep rfl (.keep rfl (.drop .nil)))))))
          | ovr _ _ _ _ =>
            cases hk
            exact s_asg (d := kiD .vec) e_str (n_end1 (.keep rfl (.keep rfl (.drop (.keep rfl (.keep rfl (.drop .nil)))))))
    · have p1 : (match kiS S0 x with | none => none | some (.no, _) => some n | some (k, S') => knL (k :: S') (ml.drop (i + 1))) = knL [] ml := p1
      rw [hk] at p1
      refine q_if (b := isND (kiD k0)) (t_test (b_op (E.b (e_var rfl)) (E.b e_non) is_n rfl)) (fun z => ?_) fun z => s_next (n_go ?_)
      · cases k0 with
        | num => cases z
        | vec => cases z
        | no =>
          have p1 : some n = knL [] ml := p1
          rw [← p1] at rt
          exact s_raise2 e_str (e_var rfl) rt
      · have p1 : knL (k0 :: S1) (ml.drop (i + 1)) = knL [] ml := by
          cases k0 with
          | num => exact p1
          | vec => exact p1
          | no => cases z
        have e1 : S1.reverse.map kiD ++ [kiD k0] = (k0 :: S1).reverse.map kiD := by rw [List.reverse_cons, List.map_append]; rfl
        have l1 : (S1.reverse.map kiD).length = S1.length := by rw [List.length_map, List.length_reverse]
        refine s_app (i := 1) (ds := S1.reverse.map kiD) rfl (e_var rfl) (by omega) ?_
        show N _ _ [.fz (.list (ml.map rmD)), .ow (S1.reverse.map kiD ++ [kiD k0]), .un, .fz (.int (n : Nat)), .fz (kiD k0), .un]
        rw [e1]
        exact n_end (k0 :: S1) ⟨p1, by rw [List.length_cons, ls]; exact p4, by rw [List.length_cons]; omega⟩ (.keep rfl (.keep rfl (.drop (.drop (.drop (.drop .nil))))))
  · have p1 : knL S0 (ml.drop (ml.map rmD).length) = knL [] ml := p.1
    rw [List.length_map, List.drop_length] at p1
    have p1 : none = knL [] ml := by rw [← p1]; cases S0 <;> rfl
    rw [← p1] at rt
    exact n_rt rt
end
/-! ### check_depth, checked_tokens, parse -/
def cdF : Int → List Tkn → Option Nat
  | _, [] => none
  | d, t :: r => if txV t.v = some "(" then (if d = 20 then some t.n else cdF (d + 1) r) else if txV t.v = some ")" then cdF (d - 1) r else cdF d r
def OkT (t : Tkn) : Prop := (t.k = "number" ∧ ∃ i, t.v = .int i) ∨ (t.k = "string" ∧ ∃ s, t.v = .str s) ∨ (t.k = "symbol" ∧ ∃ s, t.v = .str s ∧ s ∈ SYc) ∨ (t.k = "word" ∧ ∃ s, t.v = .str s ∧ s.cps.toList.getD 0 0 ∈ LEc.cps.toList)
theorem okt_val {t : Tkn} (h : OkT t) : (∃ i, t.v = .int i) ∨ ∃ s, t.v = .str s := by
  rcases h with ⟨_, i, e⟩ | ⟨_, s, e⟩ | ⟨_, s, e, _⟩ | ⟨_, s, e, _⟩
  · exact .inl ⟨i, e⟩
  · exact .inr ⟨s, e⟩
  · exact .inr ⟨s, e⟩
  · exact .inr ⟨s, e⟩
theorem shp_int0 (v : Int) : SeqAt.shaped (.int v) = true := by
  unfold SeqAt.shaped
  rw [show PyData.depth (.int v) = 0 from by simp [PyData.depth]]
  simp [PyData.canLay0]
theorem t_tv {g : Gd} {G : List Sl} {i : Nat} {t : Tkn} (ok : OkT t) (h : G[i]? = some (.fz t.v)) (y : Str) (hy : SeqAt.shaped (.str y) = true := by decide +kernel) : T g (tTest (tOp (rEqU g.K) (tVar i) (tC (.str y)))) G (decide (txV t.v = some y)) := by
  rcases okt_val ok with ⟨v, e⟩ | ⟨s, e⟩
  · rw [e] at h ⊢
    have e2 : decide (txV (.int v) = some y) = PyData.eqv (.int v) (.str y) := by
      rw [show PyData.eqv (.int v) (.str y) = false from rfl]
      exact decide_eq_false fun z => by cases z
    rw [e2]
    exact t_test (b_op (E.b (e_var h)) (E.b e_str) (fun u w H hu hv Q q => .inr (eq_d (g := g) (shp_int0 v) hy u w H hu hv Q q)) rfl)
  · rw [e] at h ⊢
    have e2 : decide (txV (.str s) = some y) = decide (s = y) := decide_eq_decide.mpr ⟨fun z => by injection z, fun z => by rw [z]; rfl⟩
    rw [e2]
    exact t_test (b_op (E.b (e_var h)) (E.b e_str) eq_s rfl)
def cdO (C : Addr) (toks : List Tkn) : Out := match cdF 0 toks with
  | none => .val .none
  | some n => exc2 C "deep" n
/-- a token's place -/
def tkP : PyData → PyData
  | .tuple [_, _, n] => n
  | _ => .none
def ctO (C : Addr) (t : Str) : Out := match (wkR W0 (scanF t).1).2 with
  | some x => .exc C [("place", tkP x), ("fault", .str "token")]
  | none => match (scanF t).2 with
    | some q => exc2 C q.1 q.2
    | none => if ((chF (wkR W0 (scanF t).1).1.1 (wkR W0 (scanF t).1).1.2.1).lookup ("END" : Str)).isSome = true then .val (.list (scanF t).1) else exc2 C "end" t.length
section
variable {P : Program} {w : World} {K : PySem.W.Frag} {mg : Str → Option Value} {base : Heap} {f : Addr} {fd : FuncData} {Tb : List Addr} {k : Nat}
def R_cd (C : Addr) : List PyData → Out → Prop := fun ds o => ∃ toks : List Tkn, ds = [.list (toks.map tokD)] ∧ (∀ t ∈ toks, OkT t) ∧ o = cdO C toks
theorem ok_cd {C : Addr} (Fn : Fun K "check_depth" "check_depth" s_check_depth f fd) (hm : mg "check_depth" = some (.ref f)) (hb : Binds K fd ["found"] []) (Z : Zb mg)
    (C_DEEPEST : ∃ u, mg "DEEPEST" = some u ∧ RelV (.int 20) u) (XI_BadExpression : XiOk2 P w K mg base "BadExpression" C "fault" "place") :
    DfX P w K mg base 3 "check_depth" ["found"] (spX K Tb (R_cd C)) := by
  refine df_X Fn sc_check_depth hm hb (fun ds d h => by obtain ⟨_, rfl, _⟩ := h; rfl) fun cdv A outer s H Ek hr => ⟨_, (pss_cons (ps_set (i := 1) sc_check_depth.nd rfl (by first | exact .inl rfl | exact .inr rfl) pe_int)
      (pss_one (ps_for (passes_of rfl) rfl (pi_any (pv 0)) (pg_tupK (n := 3) K rfl (pgs_cons (pg_name (i := 2) sc_check_depth.nd rfl (by first | exact .inl rfl | exact .inr rfl)) (pgs_cons (pg_name (i := 3) sc_check_depth.nd rfl (by first | exact .inl rfl | exact .inr rfl)) (pgs_cons (pg_name (i := 4) sc_check_depth.nd rfl (by first | exact .inl rfl | exact .inr rfl)) pgs_nil)))) (Evl.pss_cut (ps_if (pt_cmpR (uEqK K hr.units) (pv 3) pe_str (nomark _)) (pss_cons (ps_if (pt_cmpR (uEqK K hr.units) (pv 1) (pe_gc C_DEEPEST (by rfl)) (nomark _)) (pss_one (ps_raiseI2 (W := fun cls d _ H => Ek cls d H) rfl XI_BadExpression hr (by first | decide | omega) (takes_of rfl rfl rfl rfl) (by rfl) (pa_cons pe_str (pa_cons (pv 4) pa_nil)))) pss_nil)
      (pss_one (ps_aug (i := 1) sc_check_depth.nd rfl (by first | exact .inl rfl | exact .inr rfl) pe_int ip_add))) pss_nil)
      (pss_one (ps_if (pt_cmpR (uEqK K hr.units) (pv 3) pe_str (nomark _)) (pss_one (ps_aug (i := 1) sc_check_depth.nd rfl (by first | exact .inl rfl | exact .inr rfl) pe_int ip_sub)) pss_nil)))))),  fun ds o F0 H0 Q r rt => ?_⟩
  obtain ⟨toks, rfl, ok, rfl⟩ := r
  unfold cdO at rt
  show S _ _ _ [.fz (.list (toks.map tokD)), .un, .un, .un, .un]
  refine q_asg (d := .int 0) e_int ?_
  show S _ _ _ [.fz (.list (toks.map tokD)), .fz (.int 0), .un, .un, .un]
  refine s_for (α := Int) (fun _ d => [.fz (.list (toks.map tokD)), .fz (.int d), .un, .un, .un]) (fun i d => cdF d (toks.drop i) = cdF 0 toks) (it_al (e_var rfl)) 0 rfl (Wk.refl _) (fun F1 i d x hd p => ?_) fun d p => ?_
  · obtain ⟨t, ht, rfl⟩ := map_get hd
    have ot := ok t (List.mem_of_getElem? ht)
    have p : cdF d (toks.drop i) = cdF 0 toks := p
    rw [drop_get ht, cdF] at p
    refine ⟨_, _, g_tup (gs_cons g_name (gs_cons g_name (gs_cons g_name gs_nil))) rfl, ?_⟩
    show S _ _ _ [.fz (.list (toks.map tokD)), .fz (.int d), .fz (.str t.k), .fz t.v, .fz (.int (t.n : Nat))]
    have ne : (("(" : Str) = ")") = False := by decide
    refine s_cutA (α := Unit) (fun _ => [.fz (.list (toks.map tokD)), .fz (.int (if txV t.v = some "(" then d + 1 else d)), .un, .fz t.v, .un]) (fun _ => txV t.v = some "(" → d ≠ 20) (s_if (b := decide (txV t.v = some "(")) (t_tv ot rfl _) (fun z => ?_) fun z => s_next (n_end () (fun h => absurd h (of_decide_eq_false z)) ?_)) fun _ hd20 => ?_
    · have z := of_decide_eq_true z
      rw [if_pos z] at p ⊢
      refine q_if (b := decide (d = 20)) (t_test (b_op (E.b (e_var rfl)) (E.b e_int) eq_i rfl)) (fun z2 => ?_) fun z2 => s_next (n_go ?_)
      · rw [if_pos (of_decide_eq_true z2)] at p
        rw [← p] at rt
        exact s_raise2 e_str (e_var rfl) rt
      · exact s_aug (a := d) (b := 1) rfl e_int (n_end () (fun _ => of_decide_eq_false z2) (.keep rfl (.keep rfl (.drop (.keep rfl (.drop .nil))))))
    · rw [if_neg (of_decide_eq_false z)]
      exact .keep rfl (.keep rfl (.drop (.keep rfl (.drop .nil))))
    by_cases h1 : txV t.v = some "("
    · rw [if_pos h1] at p ⊢
      rw [if_neg (hd20 h1)] at p
      refine s_if (b := decide (txV t.v = some ")")) (t_tv ot rfl _) (fun z => ?_) fun z => s_next (n_end (d + 1) p (.keep rfl (.keep rfl (.drop (.drop (.drop .nil))))))
      have z := of_decide_eq_true z
      rw [h1] at z; exact absurd z (by decide)
    · rw [if_neg h1] at p ⊢
      refine s_if (b := decide (txV t.v = some ")")) (t_tv ot rfl _) (fun z => ?_) fun z => ?_
      · rw [if_pos (of_decide_eq_true z)] at p
        exact s_aug (a := d) (b := 1) rfl e_int (n_end (d - 1) p (.keep rfl (.keep rfl (.drop (.drop (.drop .nil))))))
      · rw [if_neg (of_decide_eq_false z)] at p
        exact s_next (n_end d p (.keep rfl (.keep rfl (.drop (.drop (.drop .nil))))))
  · have p : cdF d (toks.drop (toks.map tokD).length) = cdF 0 toks := p
    rw [List.length_map, List.drop_length] at p
    have p : none = cdF 0 toks := p
    rw [← p] at rt
    exact n_rt rt
def R_ct (C : Addr) : List PyData → Out → Prop := fun ds o => ∃ t : Str, ds = [.str t] ∧ t.length ≤ 90000 ∧ o = ctO C t
theorem ok_ct {C CW : Addr} (Fn : Fun K "checked_tokens" "checked_tokens" s_checked_tokens f fd) (hm : mg "checked_tokens" = some (.ref f)) (hb : Binds K fd ["text"] []) (Z : Zb mg) (CL_Walk : Cls K CW)
    (XI_BadExpression : XiOk2 P w K mg base "BadExpression" C "fault" "place")
    (D_scan : Df P w K mg base 4 "scan" ["text"] (spD K Tb R_scan))
    (D_walk_along : Df P w K mg base 3 "walk_along" ["tokens"] (spTO K Tb CW R_wa))
    (M_Walk_choices : DW.MtOk P w K mg base 1 CW "choices" ["self"] (spMC K Tb CW R_ch)) :
    DfX P w K mg base 5 "checked_tokens" ["text"] (spX K Tb (R_ct C)) := by
  refine df_X Fn sc_checked_tokens hm hb (fun ds d h => by obtain ⟨_, rfl, _⟩ := h; rfl) fun cdv A outer s H Ek hr => ⟨_, (pss_cons (ps_asg (pe_df D_scan hr (by first | decide | exact Nat.le_refl _ | omega) (by rfl) (pa_cons (pv 0) pa_nil)) (pg_tupK (n := 2) K rfl (pgs_cons (pg_name (i := 1) sc_checked_tokens.nd rfl (by first | exact .inl rfl | exact .inr rfl)) (pgs_cons (pg_name (i := 2) sc_checked_tokens.nd rfl (by first | exact .inl rfl | exact .inr rfl)) pgs_nil))))
      (pss_cons (ps_asg (pe_df D_walk_along hr (by first | decide | exact Nat.le_refl _ | omega) (by rfl) (pa_cons (pv 1) pa_nil)) (pg_tupK (n := 2) K rfl (pgs_cons (pg_name (i := 3) sc_checked_tokens.nd rfl (by first | exact .inl rfl | exact .inr rfl)) (pgs_cons (pg_name (i := 4) sc_checked_tokens.nd rfl (by first | exact .inl rfl | exact .inr rfl)) pgs_nil))))
      (pss_cons (ps_if (pt_cmpR uNotN (pv 4) pe_non (nomark _)) (pss_one (ps_raiseI2 (W := fun cls d _ H => Ek cls d H) rfl XI_BadExpression hr (by first | decide | omega) (takes_of rfl rfl rfl rfl) (by rfl) (pa_cons pe_str (pa_cons (pe_ix (ix_seqK K) (pv 4) pe_int (fun _ _ => rfl)) pa_nil)))) pss_nil)
      (pss_cons (ps_if (pt_cmpR uNotN (pv 2) pe_non (nomark _)) (pss_one (ps_raiseI2 (W := fun cls d _ H => Ek cls d H) rfl XI_BadExpression hr (by first | decide | omega) (takes_of rfl rfl rfl rfl) (by rfl) (pa_cons (pe_ix (ix_seqK K) (pv 2) pe_int (fun _ _ => rfl)) (pa_cons (pe_ix (ix_seqK K) (pv 2) pe_int (fun _ _ => rfl)) pa_nil)))) pss_nil)
      (pss_cons (ps_if (pt_cmp (pc_dnotin (hu_of hr) pe_str (pe_mtM0 M_Walk_choices CL_Walk hr (by first | decide | exact Nat.le_refl _ | omega) (pv 3)))) (pss_one (ps_raiseI2 (W := fun cls d _ H => Ek cls d H) rfl XI_BadExpression hr (by first | decide | omega) (takes_of rfl rfl rfl rfl) (by rfl) (pa_cons pe_str (pa_cons (pe_callB (uLenK K) (by rfl) Z.len (by decide +kernel) (pa_cons (pv 0) pa_nil)) pa_nil)))) pss_nil)
      (pss_one (ps_ret (pv 1)))))))),  fun ds o F0 H0 Q r rt => ?_⟩
  obtain ⟨t, rfl, hl, rfl⟩ := r
  have r : R_scan [.str t] (.tuple [.list (scanF t).1, fltD (scanF t).2]) := ⟨t, rfl, hl, rfl⟩
  refine q_asgT (d := .tuple [.list (scanF t).1, fltD (scanF t).2]) (e_call (ds := [.str t]) (a_cons (e_var rfl) a_nil) r) (g_tup (gs_cons g_name (gs_cons g_name gs_nil)) rfl) ?_
  have rows := scan_rows t
  unfold ctO at rt
  generalize (scanF t).1 = toks at rows rt ⊢
  generalize (scanF t).2 = flt at rt ⊢
  show S _ _ _ [.fz (.str t), .fz (.list toks), .fz (fltD flt), .un, .un]
  refine q_unpTO (R := R_wa) (i := 3) (j := 4) (a_cons (e_var rfl) a_nil) ⟨toks, rfl, rows, rfl, rfl⟩ (by decide) (Nat.le_of_ble_eq_true rfl) fun a dx => ?_
  have hst := wk_st9 toks W0 w0_st
  have htk := wk_tk toks W0
  generalize wkR W0 toks = q at hst htk rt ⊢
  obtain ⟨⟨st, dp, ir⟩, wrong⟩ := q
  have hst : st ∈ STs := hst
  show S _ _ _ [.fz (.str t), .fz (.list toks), .fz (fltD flt), .ob (insC K a CW dx (wkF st dp ir)), .fz (wrong.getD .none)]
  cases wrong with
  | some x =>
    obtain ⟨kk, v, n, rfl, _⟩ := rows x (htk x rfl)
    refine q_if (b := !isND (.tuple [.str kk, v, .int (n : Nat)])) (t_test (b_op (E.b (e_var rfl)) (E.b e_non) nis_n rfl)) (fun _ => ?_) fun z => by cases z
    exact s_raise2 e_str (e_op (x := .tuple [.str kk, v, .int (n : Nat)]) (e_var rfl) e_int (ix_t rfl)) rt
  | none =>
    refine q_if (b := !isND .none) (t_test (b_op (E.b (e_var rfl)) (E.b e_non) nis_n rfl)) (fun z => by cases z) fun z => s_next (n_go ?_)
    cases flt with
    | some q =>
      refine q_if (b := !isND (fltD (some q))) (t_test (b_op (E.b (e_var rfl)) (E.b e_non) nis_n rfl)) (fun _ => ?_) fun z => by cases z
      exact s_raise2 (e_op (x := .tuple [.str q.1, .int (q.2 : Nat)]) (e_var rfl) e_int (ix_t rfl)) (e_op (x := .tuple [.str q.1, .int (q.2 : Nat)]) (e_var rfl) e_int (ix_t rfl)) rt
    | none =>
      refine q_if (b := !isND .none) (t_test (b_op (E.b (e_var rfl)) (E.b e_non) nis_n rfl)) (fun z => by cases z) fun z => s_next (n_go ?_)
      have rt : OutOk ⟨K, Tb, F0, H0, F0⟩ Q Ek (if ((chF st dp).lookup ("END" : Str)).isSome = true then .val (.list toks) else exc2 C "end" t.length) := rt
      have hg := getK_tx "END" (chF st dp)
      have he : (getK ((chF st dp).map txE) "END").isSome = ((chF st dp).lookup ("END" : Str)).isSome := by
        rw [hg]; cases (chF st dp).lookup ("END" : Str) <;> rfl
      refine q_if (b := !(getK ((chF st dp).map txE) "END").isSome) (t_dninE (eod_methC (R := R_ch) (i := 3) (kvs := (chF st dp).map txE) rfl a_nil rfl ⟨st, dp, ir, rfl, hst, rfl, rfl⟩ (tx_sc _)) e_str) (fun z => ?_) fun z => s_next (n_go ?_)
      · rw [he] at z
        rw [if_neg (by intro h; rw [h] at z; cases z)] at rt
        exact s_raise2 e_str (b_cb (ab_cons (E.b (e_var rfl)) ab_nil) (len_s (by omega)) rfl) rt
      · rw [he] at z
        rw [if_pos (by cases h : ((chF st dp).lookup ("END" : Str)).isSome with | true => rfl | false => rw [h] at z; cases z)] at rt
        exact s_ret (e_var rfl) rt
def outK (C : Addr) (ml : List MkT) (e : Xp) (n : Nat) : Out := if szB ml = true then exc2 C "many" n else match spnF ml with
  | some q => exc2 C "span" q
  | none => match knL [] ml with
    | some q => exc2 C "kinds" q
    | none => .val (exD e)
/-- what parse answers -/
def prO (C : Addr) (t : Str) (o : Out) : Prop := (∃ fs, ctO C t = .exc C fs ∧ o = .exc C fs) ∨ ∃ toks : List Tkn, ctO C t = .val (.list (toks.map tokD)) ∧ (∀ t ∈ toks, OkT t) ∧ toks.length ≤ 20000 ∧
  ((∃ n, cdF 0 toks = some n ∧ o = exc2 C "deep" n) ∨ (cdF 0 toks = none ∧ ∃ (ml : List MkT) (r : List Tkn) (e : Xp), ED 21 1 toks ml r ∧ ml.map (·.1) = stF e ∧ nod e ≤ 1000 ∧ o = outK C ml e t.length))
def R_prs (C : Addr) : List PyData → Out → Prop := fun ds o => ∃ t : Str, ds = [.str t] ∧ t.length ≤ 90000 ∧ prO C t o
theorem out_st : ∀ (e : Xp) (k : Nat) (A : List Xp) (r : List Sx), ∃ k', outG k A (stF e ++ r) = outG k' (A ++ [e]) r
  | .num v, k, A, r => ⟨k + 1, by
    show (match stepX A (.lf (.num v)) with | none => Sum.inr k | some B => outG (k + 1) B r) = _
    rw [step_some (Nat.zero_le _)]
    show outG (k + 1) (A.take (A.length - 0) ++ [_]) r = _
    rw [Nat.sub_zero, List.take_length]; rfl⟩
  | .lat a b, k, A, r => ⟨k + 1, by
    show (match stepX A (.lf (.lat a b)) with | none => Sum.inr k | some B => outG (k + 1) B r) = _
    rw [step_some (Nat.zero_le _)]
    show outG (k + 1) (A.take (A.length - 0) ++ [_]) r = _
    rw [Nat.sub_zero, List.take_length]; rfl⟩
  | .ovr a b c d, k, A, r => ⟨k + 1, by
    show (match stepX A (.lf (.ovr a b c d)) with | none => Sum.inr k | some B => outG (k + 1) B r) = _
    rw [step_some (Nat.zero_le _)]
    show outG (k + 1) (A.take (A.length - 0) ++ [_]) r = _
    rw [Nat.sub_zero, List.take_length]; rfl⟩
  | .agg w ks e, k, A, r => by
    obtain ⟨k1, h⟩ := out_st e k A (.ag w ks :: r)
    refine ⟨k1 + 1, ?_⟩
    show outG k A ((stF e ++ [.ag w ks]) ++ r) = _
    rw [List.append_assoc]
    refine h.trans ?_
    have l : (A ++ [e]).length - tkn (.ag w ks) = A.length := by rw [List.length_append]; show A.length + 1 - 1 = _; omega
    show (match stepX (A ++ [e]) (.ag w ks) with | none => Sum.inr k1 | some B => outG (k1 + 1) B r) = _
    rw [step_some (by rw [List.length_append]; show 1 ≤ A.length + 1; omega), l, List.take_left', List.drop_left'] <;> rfl
  | .bin s a b, k, A, r => by
    obtain ⟨k1, h1⟩ := out_st a k A (stF b ++ .bi s :: r)
    obtain ⟨k2, h2⟩ := out_st b k1 (A ++ [a]) (.bi s :: r)
    refine ⟨k2 + 1, ?_⟩
    show outG k A ((stF a ++ stF b ++ [.bi s]) ++ r) = _
    rw [List.append_assoc, List.append_assoc]
    refine h1.trans (h2.trans ?_)
    rw [List.append_assoc]
    have l : (A ++ ([a] ++ [b])).length - tkn (.bi s) = A.length := by rw [List.length_append]; show A.length + 2 - 2 = _; omega
    show (match stepX (A ++ ([a] ++ [b])) (.bi s) with | none => Sum.inr k2 | some B => outG (k2 + 1) B r) = _
    rw [step_some (by rw [List.length_append]; show 2 ≤ A.length + 2; omega), l, List.take_left', List.drop_left'] <;> rfl
theorem out_tree (e : Xp) : outS (stF e) = .inl e := by
  obtain ⟨k, h⟩ := out_st e 0 [] []
  rw [List.append_nil] at h
  exact h
def m0D : PyData → PyData
  | .tuple (x :: _) => x
  | _ => .none
theorem steps_map : ∀ ml : List MkT, (ml.map rmD).filterMap (fun d => some (m0D d)) = (ml.map (·.1)).map sxD
  | [] => rfl
  | m :: ml => by
    rw [List.map_cons, List.filterMap_cons, List.map_cons, List.map_cons, steps_map ml]
    rfl
theorem ok_prs {C CB CR : Addr} (Fn : Fun K "parse" "parse" s_parse f fd) (hm : mg "parse" = some (.ref f)) (hb : Binds K fd ["text"] []) (Z : Zb mg) (CL_Reader : Cls K CR) (N3 : NoAttr K CR "marks")
    (D_checked_tokens : DfX P w K mg base 5 "checked_tokens" ["text"] (spX K Tb (R_ct C)))
    (D_check_depth : DfX P w K mg base 3 "check_depth" ["found"] (spX K Tb (R_cd C)))
    (MK_Reader : MkM P w K mg base 1 "Reader" CR ["self", "found"] (spRi K Tb CR))
    (M_Reader_read_expression : DW.MtOk P w K mg base 173 CR "read_expression" ["self", "weakest"] (spF K Tb (rdFm K CR) (R_re (ED 21))))
    (D_check_sizes : DfX P w K mg base 3 "check_sizes" ["marks", "end"] (spX K Tb (R_cz C)))
    (D_check_spans : DfX P w K mg base 3 "check_spans" ["marks"] (spX K Tb (R_csp C)))
    (D_check_kinds : DfX P w K mg base 3 "check_kinds" ["marks"] (spX K Tb (R_ckk C)))
    (D_from_steps : DfX P w K mg base 3 "from_steps" ["steps"] (spX K Tb (R_from CB))) :
    DfX P w K mg base 174 "parse" ["text"] (spX K Tb (R_prs C)) := by
  refine df_X Fn sc_parse hm hb (fun ds d h => by obtain ⟨_, rfl, _⟩ := h; rfl) fun cdv A outer s H Ek hr => ⟨_, (pss_cons (ps_set (i := 1) sc_parse.nd rfl (by first | exact .inl rfl | exact .inr rfl) (pe_dfX (W := fun cls d _ H => Ek cls d H) D_checked_tokens hr (by first | decide | exact Nat.le_refl _ | omega) (by rfl) (takes_of rfl rfl rfl rfl) (pa_cons (pv 0) pa_nil)))
      (pss_cons (ps_expr (pe_dfX (W := fun cls d _ H => Ek cls d H) D_check_depth hr (by first | decide | exact Nat.le_refl _ | omega) (by rfl) (takes_of rfl rfl rfl rfl) (pa_cons (pv 1) pa_nil)))
      (pss_cons (ps_set (i := 2) sc_parse.nd rfl (by first | exact .inl rfl | exact .inr rfl) (pe_mkM MK_Reader hr (by first | decide | exact Nat.le_refl _ | omega) (by rfl) (pa_cons (pv 1) pa_nil)))
      (pss_cons (ps_expr (pe_mtM M_Reader_read_expression CL_Reader hr (by first | decide | exact Nat.le_refl _ | omega) (pv 2) (pa_cons pe_int pa_nil)))
      (pss_cons (ps_expr (pe_dfX (W := fun cls d _ H => Ek cls d H) D_check_sizes hr (by first | decide | exact Nat.le_refl _ | omega) (by rfl) (takes_of rfl rfl rfl rfl) (pa_cons (pe_fldK K (pv 2)) (pa_cons (pe_callB (uLenK K) (by rfl) Z.len (by decide +kernel) (pa_cons (pv 0) pa_nil)) pa_nil))))
      (pss_cons (ps_expr (pe_dfX (W := fun cls d _ H => Ek cls d H) D_check_spans hr (by first | decide | exact Nat.le_refl _ | omega) (by rfl) (takes_of rfl rfl rfl rfl) (pa_cons (pe_fldK K (pv 2)) pa_nil)))
      (pss_cons (ps_expr (pe_dfX (W := fun cls d _ H => Ek cls d H) D_check_kinds hr (by first | decide | exact Nat.le_refl _ | omega) (by rfl) (takes_of rfl rfl rfl rfl) (pa_cons (pe_fldK K (pv 2)) pa_nil)))
      (pss_one (ps_ret (pe_dfX (W := fun cls d _ H => Ek cls d H) D_from_steps hr (by first | decide | exact Nat.le_refl _ | omega) (by rfl) (takes_of rfl rfl rfl rfl) (pa_cons (pe_lc (own := [("mark", 3)]) (by rfl) sc_parse.nd (pi_any (pe_fldK K (pv 2))) (blkOk_by (own := [("mark", 3)]) (N := N_parse) (sc := defScope s_parse) (by decide +kernel)) (fun _ _ _ _ _ => (pg_name (i := 3) sc_parse.nd rfl (by first | exact .inl rfl | exact .inr rfl))) (fun _ _ _ _ _ => pts_nil) (fun _ _ _ _ _ => (pe_ix (ix_seqK K) (pv 3) pe_int (fun _ _ => rfl)))) pa_nil))))))))))),  fun ds o F0 H0 Q r rt => ?_⟩
  obtain ⟨t, rfl, hl, hp⟩ := r
  show S _ _ _ [.fz (.str t), .un, .un, .un]
  have rc : R_ct C [.str t] (ctO C t) := ⟨t, rfl, hl, rfl⟩
  rcases hp with ⟨fs, e1, rfl⟩ | ⟨toks, e1, ok, hz, hp⟩
  · rw [e1] at rc
    exact q_asgE (nor_call (a_cons (e_var rfl) a_nil) rc fun _ => rt)
  rw [e1] at rc
  refine q_asg (d := .list (toks.map tokD)) (e_cX (ds := [.str t]) (a_cons (e_var rfl) a_nil) rc) ?_
  show S _ _ _ [.fz (.str t), .fz (.list (toks.map tokD)), .un, .un]
  have rd : R_cd C [.list (toks.map tokD)] (cdO C toks) := ⟨toks, rfl, ok, rfl⟩
  rcases hp with ⟨n, e2, rfl⟩ | ⟨e2, ml, r, e, hr2, hm2, hn, rfl⟩
  · rw [show cdO C toks = exc2 C "deep" n from by unfold cdO; rw [e2]] at rd
    exact q_dropE (nor_call (a_cons (e_var rfl) a_nil) rd fun _ => rt)
  rw [show cdO C toks = .val .none from by unfold cdO; rw [e2]] at rd
  refine q_drop (e_cX (ds := [.list (toks.map tokD)]) (a_cons (e_var rfl) a_nil) rd) ?_
  have lm := len_ed 21 1 toks ml r hr2
  have so : ∀ m ∈ ml, sxOk m.1 := fun m hm => st_ok e m.1 (by rw [← hm2]; exact List.mem_map.mpr ⟨m, hm, rfl⟩)
  have sd : sdL 0 (ml.map (·.1)) := by
    rw [hm2, ← List.append_nil (stF e)]
    exact sd_st e 0 [] trivial
  refine q_reader (i := 2) (X := ED 21) (e_var rfl) (Nat.le_of_ble_eq_true rfl) hr2 hz fun a dx q fnd => ?_
  show S _ _ _ [.fz (.str t), .fz (.list (toks.map tokD)), .ob (insC K a CR dx [("found", .list (fnd.map tokD)), ("at", .int (q : Nat)), ("marks", .list (ml.map rmD))]), .un]
  have em : ∀ {F1 : Hp}, E (⟨K, Tb, F0, H0, F1⟩ : Gd) (tFld K (tVar 2) "marks") [.fz (.str t), .fz (.list (toks.map tokD)), .ob (insC K a CR dx [("found", .list (fnd.map tokD)), ("at", .int (q : Nat)), ("marks", .list (ml.map rmD))]), .un] (.list (ml.map rmD)) := e_fldM rfl CL_Reader N3 rfl
  have rz : R_cz C [.list (ml.map rmD), .int (t.length : Nat)] (szO C ml t.length) := ⟨ml, t.length, rfl, by omega, so, rfl⟩
  unfold outK at rt
  by_cases h1 : szB ml = true
  · rw [if_pos h1] at rt
    rw [show szO C ml t.length = exc2 C "many" t.length from if_pos h1] at rz
    exact q_dropE (nor_call (a_cons em (a_cons (b_cb (ab_cons (E.b (e_var rfl)) ab_nil) (len_s (by omega)) rfl) a_nil)) rz fun _ => rt)
  rw [if_neg h1] at rt
  rw [show szO C ml t.length = .val .none from if_neg h1] at rz
  refine q_drop (e_cX (ds := [.list (ml.map rmD), .int (t.length : Nat)]) (a_cons em (a_cons (b_cb (ab_cons (E.b (e_var rfl)) ab_nil) (len_s (by omega)) rfl) a_nil)) rz) ?_
  have rs : R_csp C [.list (ml.map rmD)] (spO C ml) := ⟨ml, rfl, so, rfl⟩
  cases h2 : spnF ml with
  | some n =>
    rw [h2] at rt
    rw [show spO C ml = exc2 C "span" n from by unfold spO; rw [h2]] at rs
    exact q_dropE (nor_call (a_cons em a_nil) rs fun _ => rt)
  | none =>
    rw [h2] at rt
    rw [show spO C ml = .val .none from by unfold spO; rw [h2]] at rs
    refine q_drop (e_cX (ds := [.list (ml.map rmD)]) (a_cons em a_nil) rs) ?_
    have rk : R_ckk C [.list (ml.map rmD)] (knO C ml) := ⟨ml, rfl, by omega, so, sd, rfl⟩
    cases h3 : knL [] ml with
    | some n =>
      rw [h3] at rt
      rw [show knO C ml = exc2 C "kinds" n from by unfold knO; rw [h3]] at rk
      exact q_dropE (nor_call (a_cons em a_nil) rk fun _ => rt)
    | none =>
      rw [h3] at rt
      rw [show knO C ml = .val .none from by unfold knO; rw [h3]] at rk
      refine q_drop (e_cX (ds := [.list (ml.map rmD)]) (a_cons em a_nil) rk) ?_
      have ls : (stF e).length = ml.length := by rw [← hm2, List.length_map]
      have rf : R_from CB [.list ((stF e).map sxD)] (.val (exD e)) := ⟨stF e, rfl, by rw [st_len]; exact hn, st_ok e, by unfold fromO; rw [out_tree]⟩
      have es := steps_map ml
      rw [hm2] at es
      refine s_ret (e_cX (ds := [.list ((stF e).map sxD)]) (a_cons (EL.e (by
        rw [← es]
        refine el_lc (ix := [3]) (fun d => some (m0D d)) (fun d => [.fz (.str t), .fz (.list (toks.map tokD)), .ob (insC K a CR dx [("found", .list (fnd.map tokD)), ("at", .int (q : Nat)), ("marks", .list (ml.map rmD))]), .fz d]) (it_al em) (by rw [List.length_map]; omega) (fun F1 d hd => g_name) (by decide) (fun F1 d hd => t_yes) fun F1 d hd y hy => ?_
        cases hy
        obtain ⟨m, _, rfl⟩ := List.mem_map.mp hd
        exact e_op (x := rmD m) (e_var rfl) e_int (ix_t rfl))) a_nil) rf) rt
end
/-! ### what the walk lets pass, the reader reads -/
def SgT (t : Tkn) : Prop := t.k = "string" → ∀ s, t.v = .str s → s ≠ "(" ∧ s ≠ ")"
def dn (d : Int) (t : Tkn) : Int := if txV t.v = some "(" then d + 1 else if txV t.v = some ")" then d - 1 else d
def Acc : WkS → Int → List Tkn → Prop
  | s, _, [] => ((chF s.1 s.2.1).lookup ("END" : Str)).isSome = true
  | s, d, t :: r => OkT t ∧ SgT t ∧ (txV t.v = some "(" → d ≠ 40) ∧ ∃ s', tkStep s (tokD t) = some s' ∧ Acc s' (dn d t) r
def wlk1 (y : Str) : Bool := decide (y.cps.toList.getD 0 0 ∈ LEc.cps.toList)
theorem tv_D {t : Tkn} {s : Str} (h : t.v = .str s) : tkV (tokD t) = s := by unfold tokD; rw [h]; rfl
theorem cf_cs {t : Tkn} {l : List (Str × Str)} (ok : OkT t) : (t.k = "number" ∧ (∃ i, t.v = .int i) ∧ cfF t.k (tkV (tokD t)) l = "NUMBER") ∨ (t.k = "string" ∧ (∃ s, t.v = .str s) ∧ cfF t.k (tkV (tokD t)) l = "STRING") ∨
    (∃ s, t.k ≠ "number" ∧ t.v = .str s ∧ s ∈ SYc ∧ cfF t.k (tkV (tokD t)) l = s) ∨ (∃ s, t.k ≠ "number" ∧ t.v = .str s ∧ wlk1 s = true ∧ (cfF t.k (tkV (tokD t)) l = s ∨ cfF t.k (tkV (tokD t)) l = "LABEL" ∨ cfF t.k (tkV (tokD t)) l = "NAME")) := by
  rcases ok with ⟨hk, i, e⟩ | ⟨hk, s, e⟩ | ⟨hk, s, e, hs⟩ | ⟨hk, s, e, hs⟩
  · exact .inl ⟨hk, ⟨i, e⟩, by rw [hk]; exact if_pos rfl⟩
  · exact .inr (.inl ⟨hk, ⟨s, e⟩, by rw [hk]; unfold cfF; rw [if_neg (by decide), if_pos rfl]⟩)
  · exact .inr (.inr (.inl ⟨s, by rw [hk]; decide, e, hs, by rw [hk, tv_D e]; unfold cfF; rw [if_neg (by decide), if_neg (by decide), if_pos (.inl rfl)]⟩))
  · refine .inr (.inr (.inr ⟨s, by rw [hk]; decide, e, decide_eq_true hs, ?_⟩))
    rw [hk, tv_D e]
    unfold cfF
    rw [if_neg (by decide), if_neg (by decide)]
    split
    · exact .inl rfl
    · split
      · exact .inr (.inl rfl)
      · exact .inr (.inr rfl)
theorem sy_not : ∀ s ∈ SYc, s ≠ "NUMBER" ∧ s ≠ "STRING" ∧ s ≠ "NAME" ∧ s ≠ "LABEL" ∧ s ≠ "END" := by decide +kernel
theorem wl_not : ∀ s ∈ (["NUMBER", "STRING", "NAME", "LABEL", "END"] : List Str), wlk1 s = false := by decide +kernel
theorem wl_ne {s x : Str} (h : wlk1 s = true) (m : x ∈ (["NUMBER", "STRING", "NAME", "LABEL", "END"] : List Str)) : s ≠ x := fun e => by
  rw [e, wl_not x m] at h; cases h
section
variable {t : Tkn} {l : List (Str × Str)} {c : Str}
theorem is_str (ok : OkT t) (h : cfF t.k (tkV (tokD t)) l = "STRING") : t.k = "string" ∧ ∃ s, t.v = .str s := by
  rcases cf_cs (l := l) ok with ⟨_, _, e⟩ | ⟨a, b, _⟩ | ⟨s, _, _, hs, e⟩ | ⟨s, _, _, hs, e⟩
  · rw [h] at e; exact absurd e (by decide)
  · exact ⟨a, b⟩
  · rw [h] at e; exact absurd e.symm (sy_not s hs).2.1
  · rw [h] at e
    rcases e with e | e | e
    · exact absurd e.symm (wl_ne hs (by decide))
    · exact absurd e (by decide)
    · exact absurd e (by decide)
end
theorem wl_sy : ∀ x ∈ (["(", ")", "{", "}", "[", "]", ",", "-", "=", "!="] : List Str), wlk1 x = false := by decide +kernel
theorem wl_no {s x : Str} (h : wlk1 s = true) (m : x ∈ (["(", ")", "{", "}", "[", "]", ",", "-", "=", "!="] : List Str)) : s ≠ x := fun e => by
  rw [e, wl_sy x m] at h; cases h
theorem dn_s {d : Int} {t : Tkn} {s : Str} (h : t.v = .str s) (n1 : s ≠ "(") (n2 : s ≠ ")") : dn d t = d := by
  unfold dn
  rw [h, if_neg (fun z => n1 (by injection z)), if_neg (fun z => n2 (by injection z))]
theorem dn_i {d i : Int} {t : Tkn} (h : t.v = .int i) : dn d t = d := by
  unfold dn
  rw [h, if_neg (fun z => by cases z), if_neg (fun z => by cases z)]
theorem dn_o {d : Int} {t : Tkn} (h : t.v = .str "(") : dn d t = d + 1 := by
  unfold dn
  rw [h]; exact if_pos rfl
theorem dn_c {d : Int} {t : Tkn} (h : t.v = .str ")") : dn d t = d - 1 := by
  unfold dn
  rw [h, if_neg (fun z => absurd z (by decide))]
  exact if_pos rfl
theorem pk_s {t : Tkn} {r : List Tkn} {s : Str} (h : t.v = .str s) : peekS (t :: r) = some s := by
  show txV t.v = _
  rw [h]; rfl
/-! one step, by states -/
theorem nb_same {st c to : Str} {dp : Int} (h1 : ¬ (c = ")" ∧ st ∈ ENDS)) (h2 : ¬ (c = "(" ∧ to = "operand")) : nbD st c to dp = dp := by
  unfold nbD
  rw [if_neg h1, if_neg h2]
theorem rf_id {to v : Str} {ir : Bool} (h1 : to ≠ "metric") (h2 : to ≠ "selector_end") : rfF to v ir = to := by
  unfold rfF
  rw [if_neg (fun z => h1 z.1), if_neg (fun z => h1 z.1), if_neg h2]
theorem ni_id {st to : Str} {ir : Bool} (h1 : st ≠ "range_end") (h2 : to ≠ "range") : nbI st to ir = ir := by
  unfold nbI
  rw [if_neg h1, if_neg h2]
/-- a state with one way on -/
def selE (ir : Bool) : Str := if ir then "range_selector" else "operand_end"
theorem rf_sel (ir : Bool) : rfF "selector_end" "" ir = selE ir := by
  unfold rfF selE
  rw [if_neg (by decide), if_neg (by decide), if_pos rfl]
/-! ### the law's text of an expression -/
theorem join_len9 (a : Str) (ys : List Str) : (Txt.join a ys).length ≤ sumL ys + ys.length * a.length := by
  have gen : ∀ (l : List Str) (acc : Array Nat), (l.foldl (fun acc p => acc ++ a.cps ++ p.cps) acc).size = acc.size + (sumL l + l.length * a.length) := by
    intro l
    induction l with
    | nil => intro acc; show acc.size = acc.size + (0 + 0 * a.length); omega
    | cons y l ih =>
      intro acc
      rw [List.foldl_cons, ih, Array.size_append, Array.size_append]
      show acc.size + a.length + y.length + (sumL l + l.length * a.length) = acc.size + (y.length + sumL l + (l.length + 1) * a.length)
      rw [Nat.add_mul, Nat.one_mul]
      omega
  cases ys with
  | nil => exact Nat.zero_le _
  | cons y ys =>
    have h := gen ys y.cps
    show (ys.foldl (fun acc p => acc ++ a.cps ++ p.cps) y.cps).size ≤ _
    rw [h]
    show y.length + (sumL ys + ys.length * a.length) ≤ (y.length + sumL ys) + (ys.length + 1) * a.length
    rw [Nat.add_mul, Nat.one_mul]
    omega
def ES (g : Gd) (te : TE) (G : List Sl) (a : Str) (n : Nat) : Prop := E g te G (.str a) ∧ a.length ≤ n
section
variable {g : Gd} {G : List Sl} {te ta tb : TE} {a b : Str} {m n : Nat} {ds : List PyData}
theorem es_cat (h1 : ES g ta G a m) (h2 : ES g tb G b n) (h : m + n ≤ 100000) : ES g (tOp (rAddU g.K) ta tb) G (a ++ b) (m + n) :=
  ⟨e_op h1.1 h2.1 (add_s (Nat.le_trans (Nat.add_le_add h1.2 h2.2) h)), by rw [app_len]; exact Nat.add_le_add h1.2 h2.2⟩
theorem es_lit (h : a.length ≤ n) : ES g (tC (.str a)) G a n := ⟨e_str, h⟩
theorem es_e (h : E g te G (.str a)) (hl : a.length ≤ n) : ES g te G a n := ⟨h, hl⟩
end
def qS (x : Str) : Str := ("\"" : Str) ++ x ++ "\""
def mtS (m : Mt) : Str := if m.2.1.length = 1 then m.1 ++ (if m.2.2 = true then ("=" : Str) else ("!=" : Str)) ++ "\"" ++ m.2.1.getD 0 "" ++ "\"" else m.1 ++ (if m.2.2 = true then (" in (" : Str) else (" not in (" : Str)) ++ Txt.join ", " (m.2.1.map qS) ++ ")"
def SLs : List (List Str) := [["or"], ["and", "unless"], ["<", "<=", ">", ">=", "==", "!="], ["+", "-"], ["*"]]
def stG (s : Str) : List (List Str) → Nat → Nat
  | [], _ => 6
  | l :: r, i => if s ∈ l then i + 1 else stG s r (i + 1)
def strF : Xp → Nat
  | .bin s _ _ => stG s SLs 0
  | _ => 6
def headF (w : Str) (ns : List Str) : Str := if 0 < ns.length then w ++ " by (" ++ Txt.join ", " ns ++ ") " else w
theorem jn_le {a : Str} {ys : List Str} {B k : Nat} (hl : ys.length ≤ k) (hB : ∀ y ∈ ys, y.length ≤ B) : sumL ys + ys.length * a.length ≤ k * B + k * a.length :=
  Nat.add_le_add (Nat.le_trans (sumL_le hB) (Nat.mul_le_mul_right _ hl)) (Nat.mul_le_mul_right _ hl)
/-! ### texts by pieces, and their tokens -/
inductive Pc where
  | b
  | w (s : Str)
  | n (m : Nat)
  | q (s : Str)
  | y (s : Str)
def pcC : Pc → List Nat
  | .b => [32]
  | .w s => s.cps.toList
  | .n m => (tS (m : Nat)).cps.toList
  | .q s => 34 :: (s.cps.toList ++ [34])
  | .y s => s.cps.toList
def pcsC (ps : List Pc) : List Nat := ps.flatMap pcC
def pcK : Nat → Pc → List Tkn
  | _, .b => []
  | k, .w s => [⟨"word", .str s, k⟩]
  | k, .n m => [⟨"number", .int (m : Nat), k⟩]
  | k, .q s => [⟨"string", .str s, k⟩]
  | k, .y s => [⟨"symbol", .str s, k⟩]
def pcsK : Nat → List Pc → List Tkn
  | _, [] => []
  | k, p :: r => pcK k p ++ pcsK (k + (pcC p).length) r
def hdB (l : List Nat) : Prop := ∀ c, l.head? = some c → c ∉ CHc.cps.toList ∧ c ≠ 61
def hdW (l : List Nat) : Prop := ∀ c, l.head? = some c → c ∉ CHc.cps.toList
theorem hdB.w {l : List Nat} (h : hdB l) : hdW l := fun c hc => (h c hc).1
def WdO (s : Str) : Prop := (∃ c r, s.cps.toList = c :: r ∧ c ∈ LEc.cps.toList) ∧ (∀ x ∈ s.cps.toList, x ∈ CHc.cps.toList) ∧ s.length ≤ 20
def StO (s : Str) : Prop := (∀ x ∈ s.cps.toList, x ∈ CHc.cps.toList) ∧ s.length ≤ 20
def PcO : Pc → List Nat → Prop
  | .b, _ => True
  | .w s, R => WdO s ∧ hdW R
  | .n m, R => m ≤ 999999999999999 ∧ hdW R
  | .q s, _ => StO s
  | .y s, R => s ∈ SYc ∧ (s.length = 1 → R.head? ≠ some 61)
def PcsO : List Pc → List Nat → Prop
  | [], _ => True
  | p :: r, R => PcO p (pcsC r ++ R) ∧ PcsO r R
theorem pcsC_cons (p : Pc) (r : List Pc) : pcsC (p :: r) = pcC p ++ pcsC r := rfl
theorem pcsC_app (a b : List Pc) : pcsC (a ++ b) = pcsC a ++ pcsC b := List.flatMap_append
theorem pcsO_app : ∀ {a b : List Pc} {R : List Nat}, PcsO a (pcsC b ++ R) → PcsO b R → PcsO (a ++ b) R
  | [], b, R, _, h => h
  | p :: a, b, R, h1, h2 => ⟨by show PcO p (pcsC (a ++ b) ++ R); rw [pcsC_app, List.append_assoc]; exact h1.1, pcsO_app h1.2 h2⟩
theorem pcsK_app : ∀ (a b : List Pc) (k : Nat), pcsK k (a ++ b) = pcsK k a ++ pcsK (k + (pcsC a).length) b
  | [], b, k => rfl
  | p :: a, b, k => by
    show pcK k p ++ pcsK _ (a ++ b) = (pcK k p ++ pcsK _ a) ++ _
    rw [pcsK_app a b, List.append_assoc, pcsC_cons, List.length_append, Nat.add_assoc]
theorem runL_app {S : Str} : ∀ {xs rest : List Nat}, (∀ c ∈ xs, c ∈ S.cps.toList) → (∀ c, rest.head? = some c → c ∉ S.cps.toList) → runL S (xs ++ rest) = xs.length
  | [], [], _, _ => rfl
  | [], c :: r, _, h => by
    show (if c ∈ S.cps.toList then _ else 0) = 0
    exact if_neg (h c rfl)
  | x :: xs, rest, h1, h2 => by
    show (if x ∈ S.cps.toList then runL S (xs ++ rest) + 1 else 0) = xs.length + 1
    rw [if_pos (h1 x List.mem_cons_self), runL_app (fun c hc => h1 c (List.mem_cons_of_mem _ hc)) h2]
theorem cut_at {t : Str} {a : Nat} {xs rest : List Nat} (h : t.cps.toList.drop a = xs ++ rest) (ha : a ≤ t.length) : cutS t (some (a : Nat)) (some ((a + xs.length : Nat) : Int)) = ⟨xs.toArray⟩ := by
  have hl : a + xs.length ≤ t.length := by
    have := congrArg List.length h
    rw [List.length_drop, List.length_append, cps_len] at this
    omega
  rw [str_ofL, Nat.min_eq_left ha, Nat.min_eq_left hl, Nat.add_sub_cancel_left, h, List.take_left']
  rfl
theorem str_of_list {s : Str} {l : List Nat} (h : s.cps.toList = l) : (⟨l.toArray⟩ : Str) = s := by
  rw [← h]
theorem fold_ge : ∀ (ds : List Nat) (v : Nat), v ≤ ds.foldl (fun v c => v * 10 + (c - 48)) v
  | [], v => Nat.le_refl _
  | c :: ds, v => Nat.le_trans (by omega) (fold_ge ds (v * 10 + (c - 48)))
theorem numL_ok : ∀ (ds : List Nat) (v p : Nat), (∀ c ∈ ds, 48 ≤ c) → ds.foldl (fun v c => v * 10 + (c - 48)) v ≤ 999999999999999 → numL ds (v : Nat) p = .inl ((ds.foldl (fun v c => v * 10 + (c - 48)) v : Nat) : Int)
  | [], v, p, _, _ => rfl
  | c :: ds, v, p, h, hb => by
    have hc := h c List.mem_cons_self
    have hg := fold_ge ds (v * 10 + (c - 48))
    have hb : ds.foldl (fun v c => v * 10 + (c - 48)) (v * 10 + (c - 48)) ≤ 999999999999999 := hb
    have e : 10 * ((v : Nat) : Int) + (((c : Nat) : Int) - 48) = ((v * 10 + (c - 48) : Nat) : Int) := by omega
    rw [numL, e, if_neg (by omega)]
    exact numL_ok ds _ (p + 1) (fun x hx => h x (List.mem_cons_of_mem _ hx)) hb
theorem ts_dig (m : Nat) : (∀ c ∈ (tS (m : Nat)).cps.toList, c ∈ DGc.cps.toList) ∧ (tS (m : Nat)).cps.toList ≠ [] ∧ (tS (m : Nat)).cps.toList.foldl (fun v c => v * 10 + (c - 48)) 0 = m := by
  rw [ts_codes]
  refine ⟨fun c hc => ?_, dg_ne m, dg_val m⟩
  have r := dg_range m c hc
  have a : ∀ i < 10, (48 + i) ∈ DGc.cps.toList := by decide +kernel
  have := a (c - 48) (by omega)
  rwa [show 48 + (c - 48) = c by omega] at this
theorem dg_facts : ∀ c ∈ DGc.cps.toList, 48 ≤ c ∧ c ∈ CHc.cps.toList ∧ c ∉ LEc.cps.toList ∧ c ∉ BLc.cps.toList := by decide +kernel
theorem le_facts : ∀ c ∈ LEc.cps.toList, c ∈ CHc.cps.toList ∧ c ∉ BLc.cps.toList := by decide +kernel
theorem sy_facts : ∀ s ∈ SYc, ∃ c r, s.cps.toList = c :: r ∧ c ∉ LEc.cps.toList ∧ c ∉ DGc.cps.toList ∧ c ≠ 34 ∧ c ∉ BLc.cps.toList ∧ (r = [] ∨ ∃ d, r = [d]) := by
  have a : ∀ s ∈ SYc, (s.cps.toList.headD 0 ∉ LEc.cps.toList ∧ s.cps.toList.headD 0 ∉ DGc.cps.toList ∧ s.cps.toList.headD 0 ≠ 34 ∧ s.cps.toList.headD 0 ∉ BLc.cps.toList) ∧ (s.cps.toList.length = 1 ∨ s.cps.toList.length = 2) := by decide +kernel
  intro s hs
  obtain ⟨⟨h1, h2, h3, h4⟩, hl⟩ := a s hs
  generalize s.cps.toList = l at h1 h2 h3 h4 hl
  match l, hl with
  | [c], _ => exact ⟨c, [], rfl, h1, h2, h3, h4, .inl rfl⟩
  | [c, d], _ => exact ⟨c, [d], rfl, h1, h2, h3, h4, .inr ⟨d, rfl⟩⟩
  | [], h => rcases h with h | h <;> cases h
  | _ :: _ :: _ :: _, h => rcases h with h | h <;> (simp at h)
theorem sy_two2 : ∀ s ∈ SYc, s.cps.toList.length = 2 → s.cps.toList.getD 1 0 = 61 := by decide +kernel
theorem qu_facts : (34 : Nat) ∉ LEc.cps.toList ∧ (34 : Nat) ∉ DGc.cps.toList ∧ (34 : Nat) ∉ BLc.cps.toList ∧ (34 : Nat) ∉ CHc.cps.toList := by decide +kernel
section
variable {t : Str} {k : Nat} {R : List Nat}
theorem tok_w {s : Str} (h : t.cps.toList.drop k = s.cps.toList ++ R) (hk : k < t.length) (hs : WdO s) (hR : hdW R) : tokenF t k = .inl (.tuple [.str "word", .str s, .int (k : Nat)], k + s.length) := by
  obtain ⟨⟨c, r, e, hc⟩, hall, hl⟩ := hs
  have hc0 : t.cps.toList[k]? = some c := by
    have : (t.cps.toList.drop k)[0]? = some c := by rw [h, e]; rfl
    rw [List.getElem?_drop] at this
    simpa using this
  have hr : runE t.cps.toList CHc k = k + s.length := by
    unfold runE
    rw [h, runL_app hall fun c hc => hR c hc]
    show k + s.cps.toList.length = _
    rw [cps_len]
  unfold tokenF
  rw [getD_at hc0, if_pos hc]
  show (if 20 < runE t.cps.toList CHc k - k then (.inr ("long", k + 20, runE t.cps.toList CHc k) : Tk) else .inl (.tuple [.str "word", .str (cutS t (some (k : Nat)) (some ((runE t.cps.toList CHc k : Nat) : Int))), .int (k : Nat)], runE t.cps.toList CHc k)) = _
  rw [hr, if_neg (by omega), ← cps_len s, cut_at h (Nat.le_of_lt hk), str_of_list rfl]
theorem tok_n {m : Nat} (h : t.cps.toList.drop k = (tS (m : Nat)).cps.toList ++ R) (hk : k < t.length) (hm : m ≤ 999999999999999) (hR : hdW R) : tokenF t k = .inl (.tuple [.str "number", .int (m : Nat), .int (k : Nat)], k + (tS (m : Nat)).cps.toList.length) := by
  obtain ⟨d1, d2, d3⟩ := ts_dig m
  generalize (tS (m : Nat)).cps.toList = D at h d1 d2 d3
  obtain ⟨c, r, rfl⟩ := List.exists_cons_of_ne_nil d2
  have hc := d1 c List.mem_cons_self
  have f := dg_facts c hc
  have hc0 : t.cps.toList[k]? = some c := by
    have : (t.cps.toList.drop k)[0]? = some c := by rw [h]; rfl
    rw [List.getElem?_drop] at this
    simpa using this
  have hrl : runL DGc (t.cps.toList.drop k) = (c :: r).length := by
    rw [h, runL_app d1 fun x hx hd => hR x hx (dg_facts x hd).2.1]
  unfold tokenF
  rw [getD_at hc0, if_neg f.2.2.1, if_pos hc]
  unfold numberF
  have hd : digs t k = c :: r := by
    unfold digs
    rw [hrl, h, List.take_left']
    rfl
  have hn := numL_ok (c :: r) 0 k (fun x hx => (dg_facts x (d1 x hx)).1) (by rw [d3]; exact hm)
  rw [d3] at hn
  have hr : runE t.cps.toList DGc k = k + (c :: r).length := by unfold runE; rw [hrl]
  rw [hd, show ((0 : Int)) = ((0 : Nat) : Int) from rfl, hn, hr]
theorem tok_q {s : Str} (h : t.cps.toList.drop k = 34 :: (s.cps.toList ++ 34 :: R)) (hk : k < t.length) (hs : StO s) : tokenF t k = .inl (.tuple [.str "string", .str s, .int (k : Nat)], k + (s.length + 2)) := by
  have hc0 : t.cps.toList[k]? = some 34 := by
    have : (t.cps.toList.drop k)[0]? = some 34 := by rw [h]; rfl
    rw [List.getElem?_drop] at this
    simpa using this
  have h1 : t.cps.toList.drop (k + 1) = s.cps.toList ++ 34 :: R := by
    have := congrArg (List.drop 1) h
    rw [List.drop_drop] at this
    exact this
  have hr : runE t.cps.toList CHc (k + 1) = k + 1 + s.length := by
    unfold runE
    rw [h1, runL_app hs.1 fun c hc => by
      have hc : some 34 = some c := hc
      injection hc with hc
      rw [← hc]; exact qu_facts.2.2.2]
    rw [cps_len]
  have he : t.cps.toList[k + 1 + s.length]? = some 34 := by
    have : (t.cps.toList.drop (k + 1))[s.length]? = some 34 := by
      rw [h1, List.getElem?_append_right (by rw [cps_len]; exact Nat.le_refl _), cps_len, Nat.sub_self]; rfl
    rw [List.getElem?_drop] at this
    exact this
  have hl := (List.getElem?_eq_some_iff.mp he).1
  rw [cps_len] at hl
  unfold tokenF
  rw [getD_at hc0, if_neg qu_facts.1, if_neg qu_facts.2.1, if_pos rfl]
  show (if 20 < runE t.cps.toList CHc (k + 1) - k - 1 then (.inr ("long", k + 1 + 20, runE t.cps.toList CHc (k + 1)) : Tk) else if runE t.cps.toList CHc (k + 1) = t.length then .inr ("end", runE t.cps.toList CHc (k + 1), runE t.cps.toList CHc (k + 1)) else if t.cps.toList.getD (runE t.cps.toList CHc (k + 1)) 0 ≠ 34 then .inr ("character", runE t.cps.toList CHc (k + 1), runE t.cps.toList CHc (k + 1)) else .inl (.tuple [.str "string", .str (cutS t (some ((k + 1 : Nat) : Int)) (some ((runE t.cps.toList CHc (k + 1) : Nat) : Int))), .int (k : Nat)], runE t.cps.toList CHc (k + 1) + 1)) = _
  have hs2 := hs.2
  have ct := cut_at h1 (by omega)
  rw [cps_len] at ct
  rw [hr, if_neg (by omega), if_neg (by omega), getD_at he, if_neg (by decide), ct, str_of_list rfl]
  congr 2
  omega
theorem tok_y {s : Str} (h : t.cps.toList.drop k = s.cps.toList ++ R) (hk : k < t.length) (hs : s ∈ SYc) (hR : s.length = 1 → R.head? ≠ some 61) : tokenF t k = .inl (.tuple [.str "symbol", .str s, .int (k : Nat)], k + s.length) := by
  obtain ⟨c, r, e, n1, n2, n3, n4, hr⟩ := sy_facts s hs
  have hc0 : t.cps.toList[k]? = some c := by
    have : (t.cps.toList.drop k)[0]? = some c := by rw [h, e]; rfl
    rw [List.getElem?_drop] at this
    simpa using this
  unfold tokenF
  rw [getD_at hc0, if_neg n1, if_neg n2, if_neg n3]
  unfold symbolF
  have ls : s.length = s.cps.toList.length := (cps_len s).symm
  rcases hr with rfl | ⟨d, rfl⟩
  · have l1 : s.length = 1 := by rw [ls, e]; rfl
    have o1 : oneS t k = s := by
      have ct := cut_at h (Nat.le_of_lt hk)
      rw [e] at ct
      unfold oneS
      rw [show k + 1 = k + [c].length from rfl, ct, ← e, str_of_list rfl]
    cases R with
    | nil =>
      have two : twoS t k = s := by
        unfold twoS
        have hl : t.length = k + 1 := by
          have := congrArg List.length h
          rw [List.length_drop, e, cps_len] at this
          have e2 : ([c] ++ ([] : List Nat)).length = 1 := rfl
          omega
        rw [str_ofL, Nat.min_eq_left (Nat.le_of_lt hk), h, e, Nat.min_eq_right (by omega), hl, Nat.add_sub_cancel_left, ← e]
        show (⟨(List.take 1 (s.cps.toList ++ [])).toArray⟩ : Str) = s
        rw [List.append_nil, List.take_of_length_le (by rw [e]; exact Nat.le_refl _), str_of_list rfl]
      rw [two, if_pos hs]; rfl
    | cons d R =>
      have two : twoS t k = ⟨#[c, d]⟩ := by
        have h2 : t.cps.toList.drop k = [c, d] ++ R := by rw [h, e]; rfl
        have ct := cut_at h2 (Nat.le_of_lt hk)
        unfold twoS
        exact ct
      have nt : (⟨#[c, d]⟩ : Str) ∉ SYc := fun m => by
        have := sy_two2 _ m rfl
        have : d = 61 := this
        exact hR l1 (by rw [this]; rfl)
      rw [two, if_neg nt, o1, if_pos hs]; rfl
  · have two : twoS t k = s := by
      have ct := cut_at h (Nat.le_of_lt hk)
      rw [e] at ct
      unfold twoS
      rw [show k + 2 = k + [c, d].length from rfl, ct, ← e, str_of_list rfl]
    rw [two, if_pos hs]; rfl
end
theorem pc_ne {p : Pc} {R : List Nat} (h : PcO p R) : 0 < (pcC p).length := by
  cases p with
  | b => exact Nat.one_pos
  | w s =>
    obtain ⟨⟨⟨c, r, e, _⟩, _⟩, _⟩ := h
    show 0 < s.cps.toList.length
    rw [e, List.length_cons]; omega
  | n m =>
    have := (ts_dig m).2.1
    exact List.length_pos_iff.mpr this
  | q s => show 0 < (34 :: (s.cps.toList ++ [34])).length; rw [List.length_cons]; omega
  | y s =>
    obtain ⟨c, r, e, _⟩ := sy_facts s h.1
    show 0 < s.cps.toList.length
    rw [e, List.length_cons]; omega
theorem lex_tok {t : Str} {n k c : Nat} {rows : List PyData} {p : PyData × Nat} (hk : k < t.length) (hc : t.cps.toList[k]? = some c) (hb : c ∉ BLc.cps.toList) (hT : tokenF t k = .inl p) : lexG t (n + 1) k rows = lexG t n p.2 (rows ++ [p.1]) := by
  rw [lexG, if_neg (by omega), getD_at hc, if_neg hb, hT]
theorem lex_pcs {t : Str} : ∀ (ps : List Pc) (k n : Nat) (rows : List PyData), t.cps.toList.drop k = pcsC ps → k ≤ t.length → PcsO ps [] → (pcsC ps).length < n → lexG t n k rows = (rows ++ (pcsK k ps).map tokD, none)
  | [], k, n, rows, h, hk, _, hn => by
    have hl : t.length ≤ k := by
      have := congrArg List.length h
      rw [List.length_drop, cps_len] at this
      have e : (pcsC ([] : List Pc)).length = 0 := rfl
      omega
    obtain ⟨n, rfl⟩ : ∃ m, n = m + 1 := ⟨n - 1, by omega⟩
    rw [lexG, if_pos hl]
    show _ = (rows ++ [], none)
    rw [List.append_nil]
  | p :: ps, k, n, rows, h, hk, ho, hn => by
    have hp := pc_ne ho.1
    rw [pcsC_cons] at h hn
    rw [List.length_append] at hn
    obtain ⟨n, rfl⟩ : ∃ m, n = m + 1 := ⟨n - 1, by omega⟩
    have hl : k + (pcC p).length ≤ t.length := by
      have := congrArg List.length h
      rw [List.length_drop, List.length_append, cps_len] at this
      omega
    have hkl : k < t.length := by omega
    have hd : t.cps.toList.drop (k + (pcC p).length) = pcsC ps := by
      have := congrArg (List.drop (pcC p).length) h
      rw [List.drop_drop, List.drop_left] at this
      exact this
    have o1 := ho.1
    rw [List.append_nil] at o1
    have recl := lex_pcs (t := t) ps (k + (pcC p).length) n
    have hd0 : ∀ {c : Nat} {r : List Nat}, pcC p = c :: r → t.cps.toList[k]? = some c := fun {c r} e => by
      have : (t.cps.toList.drop k)[0]? = some c := by rw [h, e]; rfl
      rw [List.getElem?_drop] at this
      simpa using this
    cases p with
    | b =>
      rw [lexG, if_neg (by omega), getD_at (hd0 rfl), if_pos (by decide +kernel)]
      exact recl rows hd hl ho.2 (by omega)
    | w s =>
      obtain ⟨⟨c, r, e, hc⟩, _⟩ := o1.1
      have tk := tok_w h hkl o1.1 o1.2
      rw [lex_tok hkl (hd0 e) (le_facts c hc).2 tk]
      show lexG t n (k + s.length) _ = _
      rw [show k + s.length = k + (pcC (.w s)).length by show _ = k + s.cps.toList.length; rw [cps_len]]
      rw [recl _ hd hl ho.2 (by omega), List.append_assoc]
      rfl
    | n m =>
      have tk := tok_n h hkl o1.1 o1.2
      obtain ⟨d1, d2, _⟩ := ts_dig m
      obtain ⟨c, r, e⟩ := List.exists_cons_of_ne_nil d2
      rw [lex_tok hkl (hd0 e) (dg_facts c (d1 c (by rw [e]; exact List.mem_cons_self))).2.2.2 tk]
      show lexG t n (k + (pcC (.n m)).length) _ = _
      rw [recl _ hd hl ho.2 (by omega), List.append_assoc]
      rfl
    | q s =>
      have h2 : t.cps.toList.drop k = 34 :: (s.cps.toList ++ 34 :: pcsC ps) := by
        rw [h]
        show 34 :: ((s.cps.toList ++ [34]) ++ pcsC ps) = _
        rw [List.append_assoc]; rfl
      have tk := tok_q h2 hkl o1
      rw [lex_tok hkl (hd0 rfl) qu_facts.2.2.1 tk]
      show lexG t n (k + (s.length + 2)) _ = _
      rw [show k + (s.length + 2) = k + (pcC (.q s)).length by show _ = k + (s.cps.toList ++ [34]).length.succ; rw [List.length_append, cps_len]; rfl]
      rw [recl _ hd hl ho.2 (by omega), List.append_assoc]
      rfl
    | y s =>
      obtain ⟨c, r, e, n1, n2, n3, n4, _⟩ := sy_facts s o1.1
      have tk := tok_y h hkl o1.1 o1.2
      rw [lex_tok hkl (hd0 e) n4 tk]
      show lexG t n (k + s.length) _ = _
      rw [show k + s.length = k + (pcC (.y s)).length by show _ = k + s.cps.toList.length; rw [cps_len]]
      rw [recl _ hd hl ho.2 (by omega), List.append_assoc]
      rfl
/-- a text that is its pieces -/
theorem scan_pcs {t : Str} {ps : List Pc} (h : t.cps.toList = pcsC ps) (ho : PcsO ps []) (hl : t.length ≤ 300) : scanF t = ((pcsK 0 ps).map tokD, none) := by
  unfold scanF
  rw [if_neg (by omega)]
  unfold lexF
  rw [lex_pcs ps 0 (t.length + 1) [] (by rw [List.drop_zero]; exact h) (Nat.zero_le _) ho (by rw [← h, cps_len]; omega)]
  rfl
/-! ### what is joined -/
def glu (b : List Nat) : List (List Nat) → List Nat
  | [] => []
  | p :: r => b ++ (p ++ glu b r)
def glt (b : List Nat) : List (List Nat) → List Nat
  | [] => []
  | p :: r => p ++ glu b r
theorem glu_eq (z : Str) : ∀ ps : List Str, StrLaws.glueL z.cps.toList ps = glu z.cps.toList (ps.map fun p => p.cps.toList)
  | [] => rfl
  | p :: r => by
    show z.cps.toList ++ (p.cps.toList ++ StrLaws.glueL z.cps.toList r) = _
    rw [glu_eq z r]; rfl
theorem join_cps (z : Str) : ∀ ps : List Str, (Txt.join z ps).cps.toList = glt z.cps.toList (ps.map fun p => p.cps.toList)
  | [] => rfl
  | p :: r => by
    have h := StrLaws.glued_list z p r
    show (Builtin.Str.glued z (p :: r)).cps.toList = _
    rw [h]
    show p.cps.toList ++ StrLaws.glueL z.cps.toList r = _
    rw [glu_eq]; rfl
/-! ### an expression's text by pieces -/
theorem app_cps (a b : Str) : (a ++ b).cps.toList = a.cps.toList ++ b.cps.toList := Array.toList_append
def nuP (v : Int) : List Pc := if v < 0 then [.y "-", .n v.natAbs] else [.n v.natAbs]
def juP : List (List Pc) → List Pc
  | [] => []
  | x :: r => .y "," :: .b :: (x ++ juP r)
def jnP : List (List Pc) → List Pc
  | [] => []
  | x :: r => x ++ juP r
def mtP (m : Mt) : List Pc := if m.2.1.length = 1 then [.w m.1, .y (if m.2.2 = true then ("=" : Str) else ("!=" : Str)), .q (m.2.1.getD 0 "")] else .w m.1 :: .b :: ((if m.2.2 = true then [.w "in"] else [.w "not", .b, .w "in"]) ++ .b :: .y "(" :: (jnP (m.2.1.map fun v => [.q v]) ++ [.y ")"]))
def seP (m : Str) (ms : List Mt) : List Pc := if ms.length = 0 then [.w m] else .w m :: .y "{" :: (jnP (ms.map mtP) ++ [.y "}"])
def hdP (w : Str) (ns : List Str) : List Pc := if 0 < ns.length then .w w :: .b :: .w "by" :: .b :: .y "(" :: (jnP (ns.map fun n => [.w n]) ++ [.y ")", .b]) else [.w w]
def WSs : List Str := ["or", "and", "unless"]
def sgP (s : Str) : Pc := if s ∈ WSs then .w s else .y s
def siP (p : List Pc) (b : Bool) : List Pc := if b = true then .y "(" :: (p ++ [.y ")"]) else p
def exP : Xp → List Pc
  | .num v => nuP v
  | .lat m ms => seP m ms
  | .ovr w m ms n => .w w :: .y "(" :: (seP m ms ++ (.y "[" :: (nuP n ++ [.y "]", .y ")"])))
  | .agg w ns e => hdP w ns ++ (.y "(" :: (exP e ++ [.y ")"]))
  | .bin s l r => siP (exP l) (decide (strF l < strF (.bin s l r))) ++ (.b :: sgP s :: .b :: siP (exP r) (decide (strF r ≤ strF (.bin s l r))))
theorem nu_C (v : Int) : pcsC (nuP v) = (tS v).cps.toList := by
  unfold nuP
  split
  · next h =>
    obtain ⟨m, rfl⟩ : ∃ m, v = Int.negSucc m := by
      cases v with
      | ofNat m => exact absurd h (by show ¬ ((m : Nat) : Int) < 0; omega)
      | negSucc m => exact ⟨m, rfl⟩
    rw [ts_neg]
    show ("-" : Str).cps.toList ++ ((tS ((m + 1 : Nat) : Int)).cps.toList ++ []) = _
    rw [ts_codes, List.append_nil]
    rfl
  · next h =>
    have e : ((v.natAbs : Nat) : Int) = v := by omega
    show (tS ((v.natAbs : Nat) : Int)).cps.toList ++ [] = _
    rw [e, List.append_nil]
theorem ju_C : ∀ xs : List (List Pc), pcsC (juP xs) = glu (", " : Str).cps.toList (xs.map pcsC)
  | [] => rfl
  | x :: r => by
    show (",": Str).cps.toList ++ ([32] ++ pcsC (x ++ juP r)) = (", " : Str).cps.toList ++ (pcsC x ++ glu _ (r.map pcsC))
    rw [pcsC_app, ju_C r]
    rfl
theorem jn_C : ∀ xs : List (List Pc), pcsC (jnP xs) = glt (", " : Str).cps.toList (xs.map pcsC)
  | [] => rfl
  | x :: r => by
    show pcsC (x ++ juP r) = pcsC x ++ glu _ (r.map pcsC)
    rw [pcsC_app, ju_C r]
theorem jn_J {α : Type} (f : α → List Pc) (g : α → Str) (h : ∀ x, pcsC (f x) = (g x).cps.toList) (xs : List α) : pcsC (jnP (xs.map f)) = (Txt.join ", " (xs.map g)).cps.toList := by
  rw [jn_C, join_cps, List.map_map, List.map_map]
  congr 1
  exact List.map_congr_left fun x _ => h x
theorem q_C (v : Str) : pcsC [.q v] = (qS v).cps.toList := by
  unfold qS
  rw [app_cps, app_cps]
  show 34 :: (v.cps.toList ++ [34]) ++ [] = _
  rw [List.append_nil]; rfl
theorem w_C (v : Str) : pcsC [.w v] = v.cps.toList := List.append_nil _
theorem cons_C (p : Pc) (r : List Pc) : pcsC (p :: r) = pcC p ++ pcsC r := rfl
theorem nil_C : pcsC [] = [] := rfl
theorem mt_C (m : Mt) : pcsC (mtP m) = (mtS m).cps.toList := by
  unfold mtP mtS
  split
  · rw [app_cps, app_cps, app_cps, app_cps]
    show m.1.cps.toList ++ ((if m.2.2 = true then ("=" : Str) else "!=").cps.toList ++ (34 :: ((m.2.1.getD 0 "").cps.toList ++ [34]) ++ [])) = _
    rw [List.append_nil]
    simp only [List.append_assoc]
    rfl
  · rw [app_cps, app_cps, app_cps, cons_C, cons_C, pcsC_app, cons_C, cons_C, pcsC_app, jn_J (fun v => [.q v]) qS q_C]
    cases m.2.2
    · show m.1.cps.toList ++ ([32] ++ (("not" : Str).cps.toList ++ ([32] ++ (("in" : Str).cps.toList ++ [])) ++ ([32] ++ (("(" : Str).cps.toList ++ ((Txt.join ", " (m.2.1.map qS)).cps.toList ++ ((")" : Str).cps.toList ++ [])))))) = ((m.1.cps.toList ++ (" not in (" : Str).cps.toList) ++ (Txt.join ", " (m.2.1.map qS)).cps.toList) ++ (")" : Str).cps.toList
      simp only [List.append_assoc, List.append_nil]
      rfl
    · show m.1.cps.toList ++ ([32] ++ ((("in" : Str).cps.toList ++ []) ++ ([32] ++ (("(" : Str).cps.toList ++ ((Txt.join ", " (m.2.1.map qS)).cps.toList ++ ((")" : Str).cps.toList ++ [])))))) = ((m.1.cps.toList ++ (" in (" : Str).cps.toList) ++ (Txt.join ", " (m.2.1.map qS)).cps.toList) ++ (")" : Str).cps.toList
      simp only [List.append_assoc, List.append_nil]
      rfl
theorem hd_C (w : Str) (ns : List Str) : pcsC (hdP w ns) = (headF w ns).cps.toList := by
  unfold hdP headF
  split
  · rw [app_cps, app_cps, app_cps, cons_C, cons_C, cons_C, cons_C, cons_C, pcsC_app, jn_J (fun n => [.w n]) (fun n => n) w_C, List.map_id', cons_C, cons_C, nil_C, List.append_nil]
    simp only [List.append_assoc]
    rfl
  · exact w_C w
/-! the pieces are sound -/
def NmO (s : Str) : Prop := WdO s ∧ s ≠ "metric"
structure MtO (m : Mt) : Prop where
  nm : NmO m.1
  va : ∀ v ∈ m.2.1, StO v
  ne : m.2.1 ≠ []
def ExO : Xp → Prop
  | .num v => v.natAbs ≤ 999999999999999
  | .lat m ms => WdO m ∧ ∀ x ∈ ms, MtO x
  | .ovr w m ms n => w ∈ OVs ∧ WdO m ∧ (∀ x ∈ ms, MtO x) ∧ 0 ≤ n ∧ n ≤ 999999999999999
  | .agg w ns e => w ∈ AGs ∧ (∀ x ∈ ns, WdO x) ∧ ExO e
  | .bin s l r => s ∈ SGs ∧ ExO l ∧ ExO r
theorem wd_all : ∀ s ∈ ((["in", "not", "by"] : List Str) ++ OVs ++ AGs ++ WSs), WdO s := by
  have a : ∀ s ∈ ((["in", "not", "by"] : List Str) ++ OVs ++ AGs ++ WSs), (s.cps.toList ≠ [] ∧ s.cps.toList.headD 0 ∈ LEc.cps.toList) ∧ (∀ x ∈ s.cps.toList, x ∈ CHc.cps.toList) ∧ s.length ≤ 20 := by decide +kernel
  intro s hs
  obtain ⟨⟨h1, h2⟩, h3, h4⟩ := a s hs
  obtain ⟨c, r, e⟩ := List.exists_cons_of_ne_nil h1
  rw [e] at h2
  exact ⟨⟨c, r, e, h2⟩, h3, h4⟩
/-- what begins with this code -/
theorem hdB_c {c : Nat} {l : List Nat} (h : c ∉ CHc.cps.toList ∧ c ≠ 61) : hdB (c :: l) := fun x hx => by
  have hx : some c = some x := hx
  injection hx with hx
  rw [← hx]; exact h
theorem hdW_c {c : Nat} {l : List Nat} (h : c ∉ CHc.cps.toList) : hdW (c :: l) := fun x hx => by
  have hx : some c = some x := hx
  injection hx with hx
  rw [← hx]; exact h
theorem ne61 {l : List Nat} (h : hdB l) : l.head? ≠ some 61 := fun e => (h 61 e).2 rfl
theorem nu_O {v : Int} {R : List Nat} (h : v.natAbs ≤ 999999999999999) (hR : hdW R) : PcsO (nuP v) R := by
  unfold nuP
  split
  · refine ⟨⟨by decide, fun _ => ?_⟩, ⟨h, hR⟩, trivial⟩
    obtain ⟨d1, d2, _⟩ := ts_dig v.natAbs
    obtain ⟨c, r, e⟩ := List.exists_cons_of_ne_nil d2
    show ((tS ((v.natAbs : Nat) : Int)).cps.toList ++ [] ++ R).head? ≠ some 61
    rw [e]
    intro z
    have z : some c = some 61 := z
    injection z with z
    have := d1 c (by rw [e]; exact List.mem_cons_self)
    rw [z] at this
    exact absurd this (by decide +kernel)
  · exact ⟨⟨h, hR⟩, trivial⟩
theorem cm_hd {l : List Nat} : hdB ((",": Str).cps.toList ++ l) := hdB_c (by decide +kernel)
theorem ju_hd {xs : List (List Pc)} {R : List Nat} (hR : hdB R) : hdB (pcsC (juP xs) ++ R) := by
  cases xs with
  | nil => exact hR
  | cons x r => exact cm_hd
theorem ju_O : ∀ (xs : List (List Pc)) {R : List Nat}, (∀ x ∈ xs, ∀ R', hdB R' → PcsO x R') → hdB R → PcsO (juP xs) R
  | [], R, _, _ => trivial
  | x :: r, R, h, hR => ⟨⟨by decide, fun _ => by
      show some 32 ≠ some 61
      decide⟩, trivial, pcsO_app (h x List.mem_cons_self _ (ju_hd hR)) (ju_O r (fun y hy => h y (List.mem_cons_of_mem _ hy)) hR)⟩
theorem jn_O : ∀ (xs : List (List Pc)) {R : List Nat}, (∀ x ∈ xs, ∀ R', hdB R' → PcsO x R') → hdB R → PcsO (jnP xs) R
  | [], R, _, _ => trivial
  | x :: r, R, h, hR => pcsO_app (h x List.mem_cons_self _ (ju_hd hR)) (ju_O r (fun y hy => h y (List.mem_cons_of_mem _ hy)) hR)
theorem sy1 {s : Str} {R : List Nat} (h : s ∈ SYc) (hR : hdB R) : PcO (.y s) R := ⟨h, fun _ => ne61 hR⟩
theorem hd_sp {l : List Nat} : hdB (32 :: l) := hdB_c (by decide +kernel)
theorem hd_cl {l : List Nat} : hdB ((")" : Str).cps.toList ++ l) := hdB_c (by decide +kernel)
theorem hd_op {l : List Nat} : hdB (("(" : Str).cps.toList ++ l) := hdB_c (by decide +kernel)
theorem hd_cb {l : List Nat} : hdB (("}" : Str).cps.toList ++ l) := hdB_c (by decide +kernel)
theorem hd_ob {l : List Nat} : hdB (("{" : Str).cps.toList ++ l) := hdB_c (by decide +kernel)
theorem hd_os {l : List Nat} : hdB (("[" : Str).cps.toList ++ l) := hdB_c (by decide +kernel)
theorem hd_cs {l : List Nat} : hdB (("]" : Str).cps.toList ++ l) := hdB_c (by decide +kernel)
theorem hd_qu {l : List Nat} : hdB (34 :: l) := hdB_c (by decide +kernel)
theorem jq_hd {vs : List Str} {R : List Nat} (hR : hdB R) : (pcsC (jnP (vs.map fun v => [.q v])) ++ R).head? ≠ some 61 := by
  cases vs with
  | nil => exact ne61 hR
  | cons v r => exact ne61 (hd_qu (l := _))
theorem wf_hd {s : Str} {l : List Nat} (h : WdO s) : (s.cps.toList ++ l).head? ≠ some 61 := by
  obtain ⟨⟨c, r, e, hc⟩, _⟩ := h
  rw [e]
  intro z
  have z : some c = some 61 := z
  injection z with z
  rw [z] at hc
  exact absurd hc (by decide +kernel)
theorem jw_hd {vs : List Str} {R : List Nat} (h : ∀ v ∈ vs, WdO v) (hR : hdB R) : (pcsC (jnP (vs.map fun v => [.w v])) ++ R).head? ≠ some 61 := by
  cases vs with
  | nil => exact ne61 hR
  | cons v r =>
    show (pcsC ([.w v] ++ juP (r.map fun v => [.w v])) ++ R).head? ≠ some 61
    rw [pcsC_app, w_C, List.append_assoc]
    exact wf_hd (h v List.mem_cons_self)
theorem mt_O {m : Mt} {R : List Nat} (h : MtO m) (hR : hdB R) : PcsO (mtP m) R := by
  unfold mtP
  split
  · next hl =>
    have hv : StO (m.2.1.getD 0 "") := by
      match hm : m.2.1, hl with
      | [v], _ => exact h.va v (by rw [hm]; exact List.mem_cons_self)
    refine ⟨⟨h.nm.1, ?_⟩, ⟨?_, fun _ => ?_⟩, hv, trivial⟩
    · cases m.2.2
      · exact hdW_c (c := 33) (by decide +kernel)
      · exact hdW_c (c := 61) (by decide +kernel)
    · cases m.2.2 <;> decide
    · exact ne61 hd_qu
  · have tail : PcsO (jnP (m.2.1.map fun v => [.q v]) ++ [.y ")"]) R := pcsO_app (jn_O _ (fun x hx R' hR' => by
      obtain ⟨v, hv, rfl⟩ := List.mem_map.mp hx
      exact ⟨h.va v hv, trivial⟩) (hd_cl (l := _))) ⟨sy1 (by decide) hR, trivial⟩
    have op : PcO (.y "(") (pcsC (jnP (m.2.1.map fun v => [.q v]) ++ [.y ")"]) ++ R) := ⟨by decide, fun _ => by
      rw [pcsC_app, List.append_assoc]
      exact jq_hd (hd_cl (l := _))⟩
    refine ⟨⟨h.nm.1, (hd_sp (l := _)).w⟩, trivial, ?_⟩
    cases m.2.2
    · exact ⟨⟨wd_all _ (by decide), (hd_sp (l := _)).w⟩, trivial, ⟨wd_all _ (by decide), (hd_sp (l := _)).w⟩, trivial, op, tail⟩
    · exact ⟨⟨wd_all _ (by decide), (hd_sp (l := _)).w⟩, trivial, op, tail⟩
theorem jm_hd {ms : List Mt} {R : List Nat} (h : ∀ m ∈ ms, MtO m) (hR : hdB R) : (pcsC (jnP (ms.map mtP)) ++ R).head? ≠ some 61 := by
  cases ms with
  | nil => exact ne61 hR
  | cons m r =>
    have e : ∃ l, pcsC (mtP m) = m.1.cps.toList ++ l := by
      unfold mtP
      split <;> exact ⟨_, rfl⟩
    obtain ⟨l, e⟩ := e
    show (pcsC (mtP m ++ juP (r.map mtP)) ++ R).head? ≠ some 61
    rw [pcsC_app, e, List.append_assoc, List.append_assoc]
    exact wf_hd (h m List.mem_cons_self).nm.1
theorem se_O {m : Str} {ms : List Mt} {R : List Nat} (h1 : WdO m) (h2 : ∀ x ∈ ms, MtO x) (hR : hdB R) : PcsO (seP m ms) R := by
  unfold seP
  split
  · exact ⟨⟨h1, hR.w⟩, trivial⟩
  · refine ⟨⟨h1, (hd_ob (l := _)).w⟩, ⟨by decide, fun _ => ?_⟩, pcsO_app (jn_O _ (fun x hx R' hR' => ?_) (hd_cb (l := _))) ⟨sy1 (by decide) hR, trivial⟩⟩
    · rw [pcsC_app, List.append_assoc]
      exact jm_hd h2 (hd_cb (l := _))
    · obtain ⟨y, hy, rfl⟩ := List.mem_map.mp hx
      exact mt_O (h2 y hy) hR'
theorem se_hd {m : Str} {ms : List Mt} {R : List Nat} (h1 : WdO m) : (pcsC (seP m ms) ++ R).head? ≠ some 61 := by
  have e : ∃ l, pcsC (seP m ms) = m.cps.toList ++ l := by
    unfold seP
    split <;> exact ⟨_, rfl⟩
  obtain ⟨l, e⟩ := e
  rw [e, List.append_assoc]
  exact wf_hd h1
theorem hd_O {w : Str} {ns : List Str} {R : List Nat} (h1 : w ∈ AGs) (h2 : ∀ x ∈ ns, WdO x) (hR : hdB R) : PcsO (hdP w ns) R := by
  have hw : WdO w := wd_all w (List.mem_append_left _ (List.mem_append_right _ h1))
  unfold hdP
  split
  · refine ⟨⟨hw, (hd_sp (l := _)).w⟩, trivial, ⟨wd_all _ (by decide), (hd_sp (l := _)).w⟩, trivial, ⟨by decide, fun _ => ?_⟩, pcsO_app (jn_O _ (fun x hx R' hR' => ?_) (hd_cl (l := _))) ⟨sy1 (by decide) (hd_sp (l := _)), trivial, trivial⟩⟩
    · rw [pcsC_app, List.append_assoc]
      exact jw_hd h2 (hd_cl (l := _))
    · obtain ⟨y, hy, rfl⟩ := List.mem_map.mp hx
      exact ⟨⟨h2 y hy, hR'.w⟩, trivial⟩
  · exact ⟨⟨hw, hR.w⟩, trivial⟩
theorem sgs_sy : ∀ s ∈ SGs, s ∉ WSs → s ∈ SYc := by decide +kernel
theorem sg_O {s : Str} {R : List Nat} (h : s ∈ SGs) : PcO (sgP s) (32 :: R) := by
  unfold sgP
  split
  · next hw => exact ⟨wd_all s (List.mem_append_right _ hw), (hd_sp (l := _)).w⟩
  · next hw => exact sy1 (sgs_sy s h hw) (hd_sp (l := _))
/-- an expression's text begins with no sign that would join -/
theorem ex_hd : ∀ (e : Xp) {R : List Nat}, ExO e → (pcsC (exP e) ++ R).head? ≠ some 61
  | .num v, R, _ => by
    show (pcsC (nuP v) ++ R).head? ≠ some 61
    rw [nu_C]
    cases v with
    | ofNat m =>
      obtain ⟨d1, d2, _⟩ := ts_dig m
      obtain ⟨c, r, e⟩ := List.exists_cons_of_ne_nil d2
      rw [show (Int.ofNat m) = ((m : Nat) : Int) from rfl, e]
      intro z
      have z : some c = some 61 := z
      injection z with z
      have := d1 c (by rw [e]; exact List.mem_cons_self)
      rw [z] at this
      exact absurd this (by decide +kernel)
    | negSucc m =>
      rw [ts_neg]
      intro z
      have z : some 45 = some 61 := z
      injection z with z
      cases z
  | .lat m ms, R, h => se_hd h.1
  | .ovr w m ms n, R, h => by
    show ((w.cps.toList ++ _) ++ R).head? ≠ some 61
    rw [List.append_assoc]
    exact wf_hd (wd_all w (List.mem_append_left _ (List.mem_append_left _ (List.mem_append_right _ h.1))))
  | .agg w ns e, R, h => by
    have e1 : ∃ l, pcsC (hdP w ns) = w.cps.toList ++ l := by
      unfold hdP
      split <;> exact ⟨_, rfl⟩
    obtain ⟨l, e1⟩ := e1
    show (pcsC (hdP w ns ++ _) ++ R).head? ≠ some 61
    rw [pcsC_app, e1, List.append_assoc, List.append_assoc]
    exact wf_hd (wd_all w (List.mem_append_left _ (List.mem_append_right _ h.1)))
  | .bin s l r, R, h => by
    show (pcsC (siP (exP l) _ ++ _) ++ R).head? ≠ some 61
    rw [pcsC_app, List.append_assoc]
    unfold siP
    split
    · exact ne61 (hd_op (l := _))
    · exact ex_hd l h.2.1
theorem si_O {p : List Pc} {b : Bool} {R : List Nat} (h : ∀ R, hdB R → PcsO p R) (h2 : ∀ R, (pcsC p ++ R).head? ≠ some 61) (hR : hdB R) : PcsO (siP p b) R := by
  unfold siP
  split
  · refine ⟨⟨by decide, fun _ => ?_⟩, pcsO_app (h _ (hd_cl (l := _))) ⟨sy1 (by decide) hR, trivial⟩⟩
    rw [pcsC_app, List.append_assoc]
    exact h2 _
  · exact h R hR
theorem ex_O : ∀ (e : Xp) {R : List Nat}, ExO e → hdB R → PcsO (exP e) R
  | .num v, R, h, hR => nu_O h hR.w
  | .lat m ms, R, h, hR => se_O h.1 h.2 hR
  | .ovr w m ms n, R, h, hR => by
    obtain ⟨h1, h2, h3, h4, h5⟩ := h
    refine ⟨⟨wd_all w (List.mem_append_left _ (List.mem_append_left _ (List.mem_append_right _ h1))), (hd_op (l := _)).w⟩, ⟨by decide, fun _ => ?_⟩, pcsO_app (se_O h2 h3 (hd_os (l := _))) ⟨⟨by decide, fun _ => ?_⟩, pcsO_app (nu_O (by omega) ((hd_cs (l := _)).w)) ⟨sy1 (by decide) (hd_cl (l := _)), sy1 (by decide) hR, trivial⟩⟩⟩
    · rw [pcsC_app, List.append_assoc]
      exact se_hd h2
    · rw [pcsC_app, List.append_assoc]
      exact ex_hd (.num n) (show n.natAbs ≤ 999999999999999 by omega)
  | .agg w ns e, R, h, hR => by
    obtain ⟨h1, h2, h3⟩ := h
    refine pcsO_app (hd_O h1 h2 (hd_op (l := _))) ⟨⟨by decide, fun _ => ?_⟩, pcsO_app (ex_O e h3 (hd_cl (l := _))) ⟨sy1 (by decide) hR, trivial⟩⟩
    rw [pcsC_app, List.append_assoc]
    exact ex_hd e h3
  | .bin s l r, R, h, hR => by
    obtain ⟨h1, h2, h3⟩ := h
    exact pcsO_app (si_O (fun R hR => ex_O l h2 hR) (fun R => ex_hd l h2) (hd_sp (l := _))) ⟨trivial, sg_O h1, trivial, si_O (fun R hR => ex_O r h3 hR) (fun R => ex_hd r h3) hR⟩
theorem hd_nil : hdB [] := fun _ h => by cases h
/-! ### the reader reads an expression's tokens -/
theorem sy_nn : ("symbol" : Str) ≠ "number" := by decide
theorem wd_nn : ("word" : Str) ≠ "number" := by decide
def mkE : Nat → Xp → List MkT
  | k, .num v => [(.lf (.num v), k)]
  | k, .lat m ms => [(.lf (.lat m ms), k)]
  | k, .ovr w m ms n => [(.lf (.ovr w m ms n), k + w.cps.toList.length + 1 + (pcsC (seP m ms)).length + 1)]
  | k, .agg w ns e => mkE (k + (pcsC (hdP w ns)).length + 1) e ++ [(.ag w ns, k)]
  | k, .bin s l r => (if decide (strF l < strF (.bin s l r)) = true then mkE (k + 1) l else mkE k l) ++ ((if decide (strF r ≤ strF (.bin s l r)) = true then mkE (k + (pcsC (siP (exP l) (decide (strF l < strF (.bin s l r))))).length + 1 + (pcC (sgP s)).length + 1 + 1) r else mkE (k + (pcsC (siP (exP l) (decide (strF l < strF (.bin s l r))))).length + 1 + (pcC (sgP s)).length + 1) r) ++ [(.bi s, k + (pcsC (siP (exP l) (decide (strF l < strF (.bin s l r))))).length + 1)])
theorem mkE_st : ∀ (e : Xp) (k : Nat), (mkE k e).map (·.1) = stF e
  | .num v, k => rfl
  | .lat m ms, k => rfl
  | .ovr w m ms n, k => rfl
  | .agg w ns e, k => by
    show (mkE (k + (pcsC (hdP w ns)).length + 1) e ++ [((.ag w ns, k) : MkT)]).map (fun m : MkT => m.1) = stF e ++ [.ag w ns]
    rw [List.map_append, mkE_st e]; rfl
  | .bin s l r, k => by
    have e1 : ∀ (c : Bool) (a b : Nat), (if c = true then mkE a l else mkE b l).map (fun m : MkT => m.1) = stF l := fun c a b => by
      cases c
      · exact mkE_st l b
      · exact mkE_st l a
    have e2 : ∀ (c : Bool) (a b : Nat), (if c = true then mkE a r else mkE b r).map (fun m : MkT => m.1) = stF r := fun c a b => by
      cases c
      · exact mkE_st r b
      · exact mkE_st r a
    unfold mkE
    rw [List.map_append, List.map_append, e1, e2]
    show stF l ++ (stF r ++ [.bi s]) = stF l ++ stF r ++ [.bi s]
    rw [List.append_assoc]
theorem pcsK_cons (k : Nat) (p : Pc) (r : List Pc) : pcsK k (p :: r) = pcK k p ++ pcsK (k + (pcC p).length) r := rfl
/-- a piece that is one token with this text -/
def OneT (el : Str → Pc) : Prop := ∀ (k : Nat) (s : Str), ∃ t : Tkn, pcK k (el s) = [t] ∧ t.v = .str s
theorem one_w : OneT .w := fun k s => ⟨_, rfl, rfl⟩
theorem one_q : OneT .q := fun k s => ⟨_, rfl, rfl⟩
section
variable {c : Tkn} {R : List Tkn}
theorem ju_rd {el : Str → Pc} (h1 : OneT el) (hc : c.v = .str ")") : ∀ (vs : List Str) (k : Nat), (∀ v ∈ vs, v ≠ ")") → ∃ ts', SkC (pcsK k (juP (vs.map fun v => [el v])) ++ c :: R) ts' ∧ RdLi ts' vs (c :: R)
  | [], k, _ => ⟨c :: R, .inr ⟨rfl, ")", pk_s hc, by decide⟩, .stop c R hc⟩
  | v :: r, k, hv => by
    obtain ⟨t, ht, tv⟩ := h1 (k + (pcC (.y ",")).length + (pcC .b).length) v
    obtain ⟨ts2, s2, l2⟩ := ju_rd h1 hc r (k + (pcC (.y ",")).length + (pcC .b).length + (pcC (el v)).length) fun x hx => hv x (List.mem_cons_of_mem _ hx)
    refine ⟨t :: (pcsK (k + (pcC (.y ",")).length + (pcC .b).length + (pcC (el v)).length) (juP (r.map fun v => [el v])) ++ c :: R), .inl ⟨⟨"symbol", .str ",", k⟩, ?_, rfl⟩, .more t v _ ts2 r _ tv (hv v List.mem_cons_self) s2 l2⟩
    show pcsK k (.y "," :: .b :: (el v :: juP (r.map fun v => [el v]))) ++ c :: R = _
    rw [pcsK_cons, pcsK_cons, pcsK_cons, ht]
    rfl
theorem jn_rd {el : Str → Pc} (h1 : OneT el) (hc : c.v = .str ")") (vs : List Str) (k : Nat) (hv : ∀ v ∈ vs, v ≠ ")") : RdLi (pcsK k (jnP (vs.map fun v => [el v])) ++ c :: R) vs (c :: R) := by
  cases vs with
  | nil => exact .stop c R hc
  | cons v r =>
    obtain ⟨t, ht, tv⟩ := h1 k v
    obtain ⟨ts2, s2, l2⟩ := ju_rd (R := R) h1 hc r (k + (pcC (el v)).length) fun x hx => hv x (List.mem_cons_of_mem _ hx)
    show RdLi (pcsK k (el v :: juP (r.map fun v => [el v])) ++ c :: R) _ _
    rw [pcsK_cons, ht]
    exact .more t v _ ts2 r _ tv (hv v List.mem_cons_self) s2 l2
theorem sto_ne {v : Str} (h : StO v) : v ≠ "(" ∧ v ≠ ")" := by
  refine ⟨fun e => ?_, fun e => ?_⟩
  · rw [e] at h
    exact absurd (h.1 40 (by decide +kernel)) (by decide +kernel)
  · rw [e] at h
    exact absurd (h.1 41 (by decide +kernel)) (by decide +kernel)
theorem wdo_wl {s : Str} (h : WdO s) : wlk1 s = true := by
  obtain ⟨⟨c, r, e, hc⟩, _⟩ := h
  unfold wlk1
  rw [e]
  exact decide_eq_true hc
theorem m1_rd {m : Mt} (h : MtO m) (k : Nat) : RdM1 (pcsK k (mtP m) ++ R) m R := by
  obtain ⟨nm, vs, b⟩ := m
  have hn := h.nm
  have hv : ∀ v ∈ vs, StO v := h.va
  unfold mtP
  by_cases hl : vs.length = 1
  · rw [if_pos (show ((nm, vs, b) : Mt).2.1.length = 1 from hl)]
    match vs, hl with
    | [v], _ =>
      have e : ((nm, [v], b) : Mt) = (nm, [v], decide ((if b = true then ("=" : Str) else "!=") = "=")) := by cases b <;> rfl
      have key := RdM1.eq (r := R) ⟨"word", .str nm, k⟩ ⟨"symbol", .str (if b = true then ("=" : Str) else "!="), k + (pcC (.w nm)).length⟩ ⟨"string", .str v, k + (pcC (.w nm)).length + (pcC (.y (if b = true then ("=" : Str) else "!="))).length⟩ nm _ v rfl rfl (by cases b <;> decide) rfl
      rw [← e] at key
      exact key
      /- .eq ⟨"word", .str nm, _⟩ ⟨"symbol", .str (if b = true then ("=" : Str) else "!="), _⟩ ⟨"string", .str v, _⟩ R nm _ v rfl rfl (by cases b <;> decide) rfl -/
  · rw [if_neg (show ¬ ((nm, vs, b) : Mt).2.1.length = 1 from hl)]
    have ls : ∀ k, RdLs (pcsK k (.y "(" :: (jnP (vs.map fun v => [.q v]) ++ [.y ")"])) ++ R) vs R := fun k => by
      rw [pcsK_cons, pcsK_app]
      refine ⟨⟨"symbol", .str "(", k⟩, pcsK (k + (pcC (.y "(")).length) (jnP (vs.map fun v => [.q v])) ++ ⟨"symbol", .str ")", k + (pcC (.y "(")).length + (pcsC (jnP (vs.map fun v => [.q v]))).length⟩ :: R, ⟨"symbol", .str ")", k + (pcC (.y "(")).length + (pcsC (jnP (vs.map fun v => [.q v]))).length⟩, ?_, jn_rd one_q rfl vs _ fun v hv' => (sto_ne (hv v hv')).2⟩
      show ⟨"symbol", .str "(", k⟩ :: ((pcsK (k + (pcC (.y "(")).length) (jnP (vs.map fun v => [.q v])) ++ [⟨"symbol", .str ")", k + (pcC (.y "(")).length + (pcsC (jnP (vs.map fun v => [.q v]))).length⟩]) ++ R) = _
      rw [List.append_assoc]
      rfl
    cases b with
    | true => exact .inn ⟨"word", .str nm, _⟩ ⟨"word", .str "in", _⟩ _ nm vs R rfl rfl (ls _)
    | false => exact .nin ⟨"word", .str nm, _⟩ ⟨"word", .str "not", _⟩ ⟨"word", .str "in", _⟩ _ nm vs R rfl rfl (ls _)
theorem mt_pk {m : Mt} (k : Nat) : peekS (pcsK k (mtP m) ++ R) = some m.1 := by
  unfold mtP
  split <;> rfl
theorem jm_rd (hc : c.v = .str "}") : ∀ (ms : List Mt) (k : Nat), (∀ m ∈ ms, MtO m) → ∃ ts', SkC (pcsK k (juP (ms.map mtP)) ++ c :: R) ts' ∧ RdMl ts' ms (c :: R)
  | [], k, _ => ⟨c :: R, .inr ⟨rfl, "}", pk_s hc, by decide⟩, .stop c R hc⟩
  | m :: r, k, hm => by
    obtain ⟨ts2, s2, l2⟩ := jm_rd hc r (k + (pcC (.y ",")).length + (pcC .b).length + (pcsC (mtP m)).length) fun x hx => hm x (List.mem_cons_of_mem _ hx)
    have m0 := hm m List.mem_cons_self
    refine ⟨pcsK (k + (pcC (.y ",")).length + (pcC .b).length) (mtP m) ++ (pcsK (k + (pcC (.y ",")).length + (pcC .b).length + (pcsC (mtP m)).length) (juP (r.map mtP)) ++ c :: R), .inl ⟨⟨"symbol", .str ",", k⟩, ?_, rfl⟩, .more _ _ ts2 m r _ m.1 (mt_pk _) (wl_no (wdo_wl m0.nm.1) (by decide)) (m1_rd m0 _) s2 l2⟩
    show pcsK k (.y "," :: .b :: (mtP m ++ juP (r.map mtP))) ++ c :: R = _
    rw [pcsK_cons, pcsK_cons, pcsK_app]
    show ⟨"symbol", .str ",", k⟩ :: ((pcsK _ (mtP m) ++ pcsK _ (juP (r.map mtP))) ++ c :: R) = _
    rw [List.append_assoc]
theorem jl_rd (hc : c.v = .str "}") (ms : List Mt) (k : Nat) (hm : ∀ m ∈ ms, MtO m) : RdMl (pcsK k (jnP (ms.map mtP)) ++ c :: R) ms (c :: R) := by
  cases ms with
  | nil => exact .stop c R hc
  | cons m r =>
    obtain ⟨ts2, s2, l2⟩ := jm_rd (R := R) hc r (k + (pcsC (mtP m)).length) fun x hx => hm x (List.mem_cons_of_mem _ hx)
    have m0 := hm m List.mem_cons_self
    show RdMl (pcsK k (mtP m ++ juP (r.map mtP)) ++ c :: R) _ _
    rw [pcsK_app, List.append_assoc]
    exact .more _ _ ts2 m r _ m.1 (mt_pk _) (wl_no (wdo_wl m0.nm.1) (by decide)) (m1_rd m0 _) s2 l2
/-- a selector: its word, then its matchers -/
theorem se_rd {m : Str} {ms : List Mt} (k : Nat) (hm : ∀ x ∈ ms, MtO x) (hR : ∃ x, peekS R = some x ∧ x ≠ "{") : ∃ T, pcsK k (seP m ms) ++ R = ⟨"word", .str m, k⟩ :: T ∧ RdMs T ms R ∧ (∃ p, peekS T = some p ∧ (p = "{" ∨ T = R)) := by
  unfold seP
  by_cases hl : ms.length = 0
  · rw [if_pos hl]
    obtain rfl := List.length_eq_zero_iff.mp hl
    obtain ⟨x, hx, nx⟩ := hR
    exact ⟨R, rfl, .inl ⟨rfl, rfl, x, hx, nx⟩, x, hx, .inr rfl⟩
  · rw [if_neg hl]
    refine ⟨⟨"symbol", .str "{", k + (pcC (.w m)).length⟩ :: (pcsK (k + (pcC (.w m)).length + (pcC (.y "{")).length) (jnP (ms.map mtP)) ++ ⟨"symbol", .str "}", k + (pcC (.w m)).length + (pcC (.y "{")).length + (pcsC (jnP (ms.map mtP))).length⟩ :: R), ?_, .inr ⟨_, _, _, rfl, rfl, jl_rd rfl ms _ hm⟩, "{", rfl, .inl rfl⟩
    rw [pcsK_cons, pcsK_cons, pcsK_app]
    show ⟨"word", .str m, k⟩ :: ⟨"symbol", .str "{", k + (pcC (.w m)).length⟩ :: ((pcsK (k + (pcC (.w m)).length + (pcC (.y "{")).length) (jnP (ms.map mtP)) ++ [⟨"symbol", .str "}", k + (pcC (.w m)).length + (pcC (.y "{")).length + (pcsC (jnP (ms.map mtP))).length⟩]) ++ R) = _
    rw [List.append_assoc]
    rfl
end
/-- what may stand behind an operand -/
def PkR (R : List Tkn) : Prop := ∃ x, peekS R = some x ∧ (x ∈ SGs ∨ x = "" ∨ x = ")")
theorem sgn12 : ∀ s ∈ SGs, s ≠ "(" ∧ s ≠ ")" ∧ s ≠ "{" ∧ s ≠ "by" ∧ s ≠ "" := by decide +kernel
theorem PkR.no {R : List Tkn} (h : PkR R) : ∃ x, peekS R = some x ∧ x ≠ "{" ∧ x ≠ "(" ∧ x ≠ "by" := by
  obtain ⟨x, hx, h⟩ := h
  refine ⟨x, hx, ?_⟩
  rcases h with h | rfl | rfl
  · have nt := sgn12 x h
    exact ⟨nt.2.2.1, nt.1, nt.2.2.2.1⟩
  · decide
  · decide
def hdLe (q : Int) (R : List Tkn) : Prop := ∀ (t : Tkn) (R' : List Tkn) (sg : Str), R = t :: R' → t.v = .str sg → sg ∈ SGs → stS sg ≤ q
theorem stop_R {X : RdP} {w : Int} {R : List Tkn} (h : PkR R) (h1 : 1 ≤ w) (hw : hdLe (w - 1) R) : RdW X w R [] R := by
  obtain ⟨x, hx, hs⟩ := h
  refine .stop R x hx hs ?_
  rcases hs with hs | rfl | rfl
  · cases R with
    | nil =>
      have hx : some ("" : Str) = some x := hx
      injection hx with hx
      exact absurd hx.symm (sgn12 x hs).2.2.2.2
    | cons t R =>
      have := hw t R x rfl (txV_eq hx) hs
      omega
  · rw [st_no.1]; omega
  · rw [st_no.2]; omega
theorem hdLe.mono {a b : Int} {R : List Tkn} (h : hdLe a R) (l : a ≤ b) : hdLe b R := fun t R' sg e v hs => Int.le_trans (h t R' sg e v hs) l
theorem hdLe_cl {q : Int} {t : Tkn} {R : List Tkn} (h : t.v = .str ")") : hdLe q (t :: R) := fun t' R' sg e v hs => by
  cases e
  rw [h] at v
  injection v with v
  exact absurd v.symm (sgn12 sg hs).2.1
theorem PkR_cl {t : Tkn} {R : List Tkn} (h : t.v = .str ")") : PkR (t :: R) := ⟨")", pk_s h, .inr (.inr rfl)⟩
theorem sg_K {s : Str} (k : Nat) : ∃ t : Tkn, pcK k (sgP s) = [t] ∧ t.v = .str s ∧ t.n = k := by
  unfold sgP
  split
  · exact ⟨_, rfl, rfl, rfl⟩
  · exact ⟨_, rfl, rfl, rfl⟩
theorem ov_wd {w : Str} (h : w ∈ OVs) : WdO w := wd_all w (List.mem_append_left _ (List.mem_append_left _ (List.mem_append_right _ h)))
theorem ag_wd {w : Str} (h : w ∈ AGs) : WdO w := wd_all w (List.mem_append_left _ (List.mem_append_right _ h))
/-- a leaf is an operand -/
theorem rd_num {E0 : RdP} {v : Int} {R : List Tkn} (k : Nat) : RdOb E0 (pcsK k (nuP v) ++ R) [(.lf (.num v), k)] R := by
  unfold nuP
  split
  · next h =>
    have e : v = -(((v.natAbs : Nat)) : Int) := by omega
    have r := RdOb.neg (E0 := E0) ⟨"symbol", .str "-", k⟩ ⟨"number", .int ((v.natAbs : Nat) : Int), k + (pcC (.y "-")).length⟩ ((v.natAbs : Nat) : Int) R sy_nn rfl rfl
    rw [← e] at r
    exact r
  · next h =>
    have e : ((v.natAbs : Nat) : Int) = v := by omega
    have r := RdOb.num (E0 := E0) ⟨"number", .int ((v.natAbs : Nat) : Int), k⟩ ((v.natAbs : Nat) : Int) R rfl rfl
    rw [e] at r
    show RdOb E0 (⟨"number", .int ((v.natAbs : Nat) : Int), k⟩ :: R) _ _
    rw [e]
    exact r
theorem rd_lat {E0 : RdP} {m : Str} {ms : List Mt} {R : List Tkn} (k : Nat) (h1 : WdO m) (h2 : ∀ x ∈ ms, MtO x) (hR : PkR R) : RdOb E0 (pcsK k (seP m ms) ++ R) [(.lf (.lat m ms), k)] R := by
  obtain ⟨x, hx, n1, n2, n3⟩ := hR.no
  obtain ⟨T, e, hs, p, hp, hpp⟩ := se_rd (R := R) k h2 ⟨x, hx, n1⟩
  rw [e]
  have pn : p ≠ "(" ∧ p ≠ "by" := by
    rcases hpp with rfl | rfl
    · decide
    · rw [hx] at hp
      injection hp with hp
      rw [← hp]; exact ⟨n2, n3⟩
  have hw := wdo_wl h1
  exact .lat ⟨"word", .str m, k⟩ m p T ms R wd_nn rfl (wl_no hw (by decide)) (wl_no hw (by decide)) hp (fun _ => pn.1) (fun _ => ⟨pn.2, pn.1⟩) hs
/-- brackets round what is read -/
theorem rd_par {E0 : RdP} {ml : List MkT} {p : List Pc} {R : List Tkn} (k : Nat) (h : ∀ c : Tkn, c.v = .str ")" → E0 1 (pcsK (k + 1) p ++ c :: R) ml (c :: R)) : RdOb E0 (pcsK k (.y "(" :: (p ++ [.y ")"])) ++ R) ml R := by
  rw [pcsK_cons, pcsK_app]
  show RdOb E0 (⟨"symbol", .str "(", k⟩ :: ((pcsK _ p ++ [⟨"symbol", .str ")", _⟩]) ++ R)) _ R
  rw [List.append_assoc]
  exact .par _ _ ml ⟨"symbol", .str ")", _⟩ R sy_nn rfl (h _ rfl)
theorem ls_nm {ns : List Str} {R : List Tkn} (hn : ∀ x ∈ ns, WdO x) (k : Nat) : RdLs (pcsK k (.y "(" :: (jnP (ns.map fun n => [.w n]) ++ [.y ")", .b])) ++ R) ns R := by
  rw [pcsK_cons, pcsK_app]
  refine ⟨⟨"symbol", .str "(", k⟩, pcsK (k + (pcC (.y "(")).length) (jnP (ns.map fun v => [.w v])) ++ ⟨"symbol", .str ")", k + (pcC (.y "(")).length + (pcsC (jnP (ns.map fun v => [.w v]))).length⟩ :: R, ⟨"symbol", .str ")", k + (pcC (.y "(")).length + (pcsC (jnP (ns.map fun v => [.w v]))).length⟩, ?_, jn_rd one_w rfl ns _ fun v hv => wl_no (wdo_wl (hn v hv)) (by decide)⟩
  show ⟨"symbol", .str "(", k⟩ :: ((pcsK (k + (pcC (.y "(")).length) (jnP (ns.map fun v => [.w v])) ++ [⟨"symbol", .str ")", k + (pcC (.y "(")).length + (pcsC (jnP (ns.map fun v => [.w v]))).length⟩]) ++ R) = _
  rw [List.append_assoc]
  rfl
theorem rd_agg {E0 : RdP} {w : Str} {ns : List Str} {ml : List MkT} {p : List Pc} {R : List Tkn} (k : Nat) (hw : w ∈ AGs) (hn : ∀ x ∈ ns, WdO x) (h : ∀ c : Tkn, c.v = .str ")" → E0 1 (pcsK (k + (pcsC (hdP w ns)).length + 1) p ++ c :: R) ml (c :: R)) : RdOb E0 (pcsK k (hdP w ns ++ (.y "(" :: (p ++ [.y ")"]))) ++ R) (ml ++ [(.ag w ns, k)]) R := by
  rw [pcsK_app, pcsK_cons, pcsK_app]
  generalize hK : k + (pcsC (hdP w ns)).length = K1 at h ⊢
  have tl : (pcK K1 (.y "(") ++ (pcsK (K1 + (pcC (.y "(")).length) p ++ pcsK (K1 + (pcC (.y "(")).length + (pcsC p).length) [.y ")"])) = ⟨"symbol", .str "(", K1⟩ :: (pcsK (K1 + 1) p ++ [⟨"symbol", .str ")", K1 + 1 + (pcsC p).length⟩]) := rfl
  rw [tl, List.append_assoc]
  have tl2 : (⟨"symbol", .str "(", K1⟩ :: (pcsK (K1 + 1) p ++ [⟨"symbol", .str ")", K1 + 1 + (pcsC p).length⟩]) : List Tkn) ++ R = ⟨"symbol", .str "(", K1⟩ :: (pcsK (K1 + 1) p ++ ⟨"symbol", .str ")", K1 + 1 + (pcsC p).length⟩ :: R) := by
    rw [List.cons_append, List.append_assoc]; rfl
  rw [tl2]
  have inner := h ⟨"symbol", .str ")", K1 + 1 + (pcsC p).length⟩ rfl
  unfold hdP
  by_cases hl : 0 < ns.length
  · rw [if_pos hl, pcsK_cons, pcsK_cons, pcsK_cons, pcsK_cons]
    exact .agg ⟨"word", .str w, k⟩ w "by" (⟨"word", .str "by", k + (pcC (.w w)).length + (pcC .b).length⟩ :: (pcsK (k + (pcC (.w w)).length + (pcC .b).length + (pcC (.w "by")).length + (pcC .b).length) (.y "(" :: (jnP (ns.map fun n => [.w n]) ++ [.y ")", .b])) ++ ⟨"symbol", .str "(", K1⟩ :: (pcsK (K1 + 1) p ++ ⟨"symbol", .str ")", K1 + 1 + (pcsC p).length⟩ :: R))) ns ml R wd_nn rfl hw rfl (.inl rfl) ⟨⟨"symbol", .str "(", K1⟩, _, ⟨"symbol", .str ")", K1 + 1 + (pcsC p).length⟩, .inr ⟨⟨"word", .str "by", k + (pcC (.w w)).length + (pcC .b).length⟩, _, rfl, rfl, ls_nm hn _⟩, inner⟩
  · rw [if_neg hl]
    obtain rfl := List.length_eq_zero_iff.mp (Nat.eq_zero_of_not_pos hl)
    exact .agg ⟨"word", .str w, k⟩ w "(" _ [] ml R wd_nn rfl hw (pk_s (t := ⟨"symbol", .str "(", K1⟩) rfl) (.inr rfl) ⟨⟨"symbol", .str "(", K1⟩, _, ⟨"symbol", .str ")", K1 + 1 + (pcsC p).length⟩, .inl ⟨rfl, rfl, "(", rfl, by decide⟩, inner⟩
/-! ### the walk lets an expression's tokens pass -/
theorem rf_met (v : Str) : rfF "metric" v false = if v ∈ OVs then ("over_word" : Str) else if v ∈ AGs then ("aggregate_word" : Str) else ("metric" : Str) := by
  unfold rfF
  by_cases h1 : v ∈ OVs
  · rw [if_pos ⟨rfl, h1⟩, if_pos h1]
  · rw [if_neg (fun z => h1 z.2), if_neg h1]
    by_cases h2 : v ∈ AGs
    · rw [if_pos ⟨rfl, h2⟩, if_pos h2]
    · rw [if_neg (fun z => h2 z.2), if_neg h2, if_neg (by decide)]
theorem nb_open {st : Str} {dp : Int} (h : st ∉ ENDS ∨ True) : nbD st "(" "operand" dp = dp + 1 := by
  unfold nbD
  rw [if_neg (fun z => absurd z.1 (by decide)), if_pos ⟨rfl, rfl⟩]
def chB2 (st : Str) (b : Bool) : List (Str × Str) := if st ∈ ENDS then nxF st ++ sgE 12 ++ [((if b = true then (")" : Str) else ("END" : Str)), ("operand_end" : Str))] else nxF st
theorem mtP_1 {nm v : Str} {b : Bool} : mtP (nm, [v], b) = [.w nm, .y (if b = true then ("=" : Str) else "!="), .q v] := by
  exact if_pos (show ((nm, [v], b) : Mt).2.1.length = 1 from rfl)
theorem mtP_t {nm : Str} {vs : List Str} (h : ¬ vs.length = 1) : mtP (nm, vs, true) = .w nm :: .b :: .w "in" :: .b :: .y "(" :: (jnP (vs.map fun v => [.q v]) ++ [.y ")"]) := by
  unfold mtP
  rw [if_neg h, if_pos rfl]
  rfl
theorem mtP_f {nm : Str} {vs : List Str} (h : ¬ vs.length = 1) : mtP (nm, vs, false) = .w nm :: .b :: .w "not" :: .b :: .w "in" :: .b :: .y "(" :: (jnP (vs.map fun v => [.q v]) ++ [.y ")"]) := by
  unfold mtP
  rw [if_neg h, if_neg (by decide : ¬ (false : Bool) = true)]
  rfl
theorem two_cat (x y : Tkn) (A B R : List Tkn) : ([x] ++ ([y] ++ (A ++ B))) ++ R = x :: y :: (A ++ (B ++ R)) := by simp
theorem bsb_cat (k : Nat) (p : Pc) (B : List Pc) (R : List Tkn) : pcsK k (.b :: p :: .b :: B) ++ R = pcK (k + 1) p ++ (pcsK (k + 1 + (pcC p).length + 1) B ++ R) := by
  rw [pcsK_cons, pcsK_cons, pcsK_cons]
  show ([] ++ (pcK (k + 1) p ++ ([] ++ pcsK (k + 1 + (pcC p).length + 1) B))) ++ R = _
  rw [List.nil_append, List.nil_append, List.append_assoc]
theorem ch_b2 (st : Str) (dp : Int) : chF st dp = chB2 st (decide (dp > 0)) := by
  unfold chF chB2
  by_cases h : dp > 0
  · rw [if_pos h, decide_eq_true h, if_pos (rfl : true = true)]
  · rw [if_neg h, decide_eq_false h, if_neg (by decide : ¬ (false = true))]
theorem end_sg : ∀ st ∈ ENDS, ∀ b ∈ [true, false], ∀ sg ∈ SGs, (chB2 st b).lookup sg = some "operand" := by decide +kernel
theorem end_cl : ∀ st ∈ ENDS, (chB2 st true).lookup (")" : Str) = some "operand_end" := by decide +kernel
theorem end_end : ∀ st ∈ ENDS, ((chB2 st false).lookup ("END" : Str)).isSome = true := by decide +kernel
theorem end_br : ∀ b ∈ [true, false], (chB2 "metric" b).lookup ("{" : Str) = some "first_label" ∧ (chB2 "over_word" b).lookup ("{" : Str) = some "first_label" ∧ (chB2 "aggregate_word" b).lookup ("{" : Str) = some "first_label" ∧ (chB2 "over_word" b).lookup ("(" : Str) = some "range" ∧ (chB2 "aggregate_word" b).lookup ("(" : Str) = some "operand" ∧ (chB2 "aggregate_word" b).lookup ("by" : Str) = some "by" := by decide +kernel
theorem b_in (b : Bool) : b ∈ [true, false] := by cases b <;> decide
theorem ok_w {s : Str} {k : Nat} (h : WdO s) : OkT ⟨"word", .str s, k⟩ := .inr (.inr (.inr ⟨rfl, s, rfl, of_decide_eq_true (wdo_wl h)⟩))
theorem ok_y {s : Str} {k : Nat} (h : s ∈ SYc) : OkT ⟨"symbol", .str s, k⟩ := .inr (.inr (.inl ⟨rfl, s, rfl, h⟩))
theorem ok_q {s : Str} {k : Nat} : OkT ⟨"string", .str s, k⟩ := .inr (.inl ⟨rfl, s, rfl⟩)
theorem ok_n {i : Int} {k : Nat} : OkT ⟨"number", .int i, k⟩ := .inl ⟨rfl, i, rfl⟩
theorem sg_k {t : Tkn} (h : t.k ≠ "string") : SgT t := fun e => absurd e h
theorem sg_q {s : Str} {k : Nat} (h : StO s) : SgT ⟨"string", .str s, k⟩ := fun _ s' e => by
  injection e with e
  rw [← e]; exact sto_ne h
theorem w_ns : ("word" : Str) ≠ "string" := by decide
theorem y_ns : ("symbol" : Str) ≠ "string" := by decide
theorem n_ns : ("number" : Str) ≠ "string" := by decide
section
variable {l : List (Str × Str)} {s : Str} {v : PyData} {k : Nat} {i : Int}
theorem cf_y : cfF "symbol" (tkV (tokD ⟨"symbol", .str s, k⟩)) l = s := by
  show cfF "symbol" s l = s
  unfold cfF
  rw [if_neg (by decide), if_neg (by decide), if_pos (.inl rfl)]
theorem cf_q : cfF "string" (tkV (tokD ⟨"string", .str s, k⟩)) l = "STRING" := by
  show cfF "string" s l = _
  unfold cfF
  rw [if_neg (by decide), if_pos rfl]
theorem cf_n : cfF "number" (tkV (tokD ⟨"number", .int i, k⟩)) l = "NUMBER" := if_pos rfl
theorem cf_kw (h : (l.lookup s).isSome = true) : cfF "word" (tkV (tokD ⟨"word", .str s, k⟩)) l = s := by
  show cfF "word" s l = _
  unfold cfF
  rw [if_neg (by decide), if_neg (by decide), if_pos (.inr h)]
theorem cf_nm (h : l.lookup s = none) (hL : l.lookup ("LABEL" : Str) = none) : cfF "word" (tkV (tokD ⟨"word", .str s, k⟩)) l = "NAME" := by
  show cfF "word" s l = _
  unfold cfF
  rw [if_neg (by decide), if_neg (by decide), if_neg (by rw [h]; decide), if_neg (fun z => by rw [hL] at z; cases z.1)]
theorem cf_lb (h : l.lookup s = none) (hL : (l.lookup ("LABEL" : Str)).isSome = true) (n : s ≠ "metric") : cfF "word" (tkV (tokD ⟨"word", .str s, k⟩)) l = "LABEL" := by
  show cfF "word" s l = _
  unfold cfF
  rw [if_neg (by decide), if_neg (by decide), if_neg (by rw [h]; decide), if_pos ⟨hL, n⟩]
theorem lk_wd (hs : wlk1 s = true) (h : ∀ p ∈ l, wlk1 p.1 = false) : l.lookup s = none := by
  cases e : l.lookup s with
  | none => rfl
  | some x =>
    have := h _ (lookup_mem e)
    rw [hs] at this; cases this
end
theorem nx_wd : ∀ st ∈ (["operand", "range", "first_name", "name", "first_label", "label"] : List Str), ∀ p ∈ nxF st, wlk1 p.1 = false := by decide +kernel
section
variable {st c to : Str} {dp d : Int} {ir : Bool} {t : Tkn} {r R : List Tkn}
theorem acc_mk (ok : OkT t) (sg : SgT t) (h20 : txV t.v = some "(" → d ≠ 40) (hc : cfF t.k (tkV (tokD t)) (chF st dp) = c) (hl : (chF st dp).lookup c = some to) (h : Acc (rfF to (tkV (tokD t)) (nbI st to ir), nbD st c to dp, nbI st to ir) (dn d t) r) : Acc (st, dp, ir) d (t :: r) := by
  refine ⟨ok, sg, h20, _, ?_, h⟩
  show (match (chF st dp).lookup (cfF t.k (tkV (tokD t)) (chF st dp)) with
      | none => none
      | some to => some (rfF to (tkV (tokD t)) (nbI st to ir), nbD st (cfF t.k (tkV (tokD t)) (chF st dp)) to dp, nbI st to ir)) = _
  rw [hc, hl]
theorem rf_v {v : Str} (h : to ≠ "metric") : rfF to v ir = rfF to "" ir := by
  have e : ∀ w : Str, rfF to w ir = if to = "selector_end" then (if ir = true then ("range_selector" : Str) else ("operand_end" : Str)) else to := fun w => by
    unfold rfF
    exact (if_neg (show ¬ (to = "metric" ∧ w ∈ OVs) from fun z => h z.1)).trans (if_neg (show ¬ (to = "metric" ∧ w ∈ AGs) from fun z => h z.1))
  rw [e v, e ""]
/-- a step inside -/
theorem st_go (ok : OkT t) (sg : SgT t) (h20 : txV t.v = some "(" → d ≠ 40) (hn : st ∉ ENDS) (hc : cfF t.k (tkV (tokD t)) (nxF st) = c) (hl : (nxF st).lookup c = some to) (h1 : to ≠ "metric" ∧ st ≠ "range_end" ∧ to ≠ "range" ∧ to ≠ "operand") (h : Acc (rfF to "" ir, dp, ir) (dn d t) r) : Acc (st, dp, ir) d (t :: r) := by
  have e : chF st dp = nxF st := if_neg hn
  refine acc_mk (c := c) (to := to) ok sg h20 (by rw [e]; exact hc) (by rw [e]; exact hl) ?_
  rw [ni_id h1.2.1 h1.2.2.1, rf_v h1.1, nb_same (fun z => hn z.2) (fun z => h1.2.2.2 z.2)]
  exact h
theorem no_op {s : Str} (h : s ≠ "(") : txV (.str s) = some "(" → d ≠ 40 := fun e => absurd (by injection e) h
theorem op_no (h : d < 40) {x : Option Str} : x = some "(" → d ≠ 40 := fun _ => by omega
/-- a symbol inside that is no round bracket -/
theorem st_y {s : Str} {k : Nat} (hs : s ∈ SYc ∧ s ≠ "(" ∧ s ≠ ")") (hn : st ∉ ENDS ∧ (nxF st).lookup s = some to) (h1 : to ≠ "metric" ∧ st ≠ "range_end" ∧ to ≠ "range" ∧ to ≠ "operand") (h : Acc (rfF to "" ir, dp, ir) d r) : Acc (st, dp, ir) d (⟨"symbol", .str s, k⟩ :: r) :=
  st_go (ok_y hs.1) (sg_k y_ns) (no_op hs.2.1) hn.1 cf_y hn.2 h1 (by rw [dn_s rfl hs.2.1 hs.2.2]; exact h)
theorem st_op {k : Nat} (hd : d < 40) (hn : st ∉ ENDS ∧ (nxF st).lookup ("(" : Str) = some to) (h1 : to ≠ "metric" ∧ st ≠ "range_end" ∧ to ≠ "range" ∧ to ≠ "operand") (h : Acc (rfF to "" ir, dp, ir) (d + 1) r) : Acc (st, dp, ir) d (⟨"symbol", .str "(", k⟩ :: r) :=
  st_go (ok_y (by decide)) (sg_k y_ns) (op_no hd) hn.1 cf_y hn.2 h1 (by rw [dn_o rfl]; exact h)
theorem st_cl {k : Nat} (hn : st ∉ ENDS ∧ (nxF st).lookup (")" : Str) = some to) (h1 : to ≠ "metric" ∧ st ≠ "range_end" ∧ to ≠ "range" ∧ to ≠ "operand") (h : Acc (rfF to "" ir, dp, ir) d r) : Acc (st, dp, ir) (d + 1) (⟨"symbol", .str ")", k⟩ :: r) :=
  st_go (ok_y (by decide)) (sg_k y_ns) (no_op (by decide)) hn.1 cf_y hn.2 h1 (by rw [dn_c rfl, show d + 1 - 1 = d by omega]; exact h)
theorem st_q {s : Str} {k : Nat} (hs : StO s) (hn : st ∉ ENDS ∧ (nxF st).lookup ("STRING" : Str) = some to) (h1 : to ≠ "metric" ∧ st ≠ "range_end" ∧ to ≠ "range" ∧ to ≠ "operand") (h : Acc (rfF to "" ir, dp, ir) d r) : Acc (st, dp, ir) d (⟨"string", .str s, k⟩ :: r) :=
  st_go ok_q (sg_q hs) (no_op (sto_ne hs).1) hn.1 cf_q hn.2 h1 (by rw [dn_s rfl (sto_ne hs).1 (sto_ne hs).2]; exact h)
theorem wd_br {s : Str} (h : WdO s) : s ≠ "(" ∧ s ≠ ")" := ⟨wl_no (wdo_wl h) (by decide), wl_no (wdo_wl h) (by decide)⟩
theorem st_lb {s : Str} {k : Nat} (hs : NmO s) (hn : st ∉ ENDS ∧ (nxF st).lookup ("LABEL" : Str) = some to) (hm : st ∈ (["operand", "range", "first_name", "name", "first_label", "label"] : List Str)) (h1 : to ≠ "metric" ∧ st ≠ "range_end" ∧ to ≠ "range" ∧ to ≠ "operand") (h : Acc (rfF to "" ir, dp, ir) d r) : Acc (st, dp, ir) d (⟨"word", .str s, k⟩ :: r) :=
  st_go (ok_w hs.1) (sg_k w_ns) (no_op (wd_br hs.1).1) hn.1 (cf_lb (lk_wd (wdo_wl hs.1) (nx_wd st hm)) (by rw [hn.2]; rfl) hs.2) hn.2 h1 (by rw [dn_s rfl (wd_br hs.1).1 (wd_br hs.1).2]; exact h)
theorem st_nm {s : Str} {k : Nat} (hs : WdO s) (hn : st ∉ ENDS ∧ (nxF st).lookup ("NAME" : Str) = some to ∧ (nxF st).lookup ("LABEL" : Str) = none) (hm : st ∈ (["operand", "range", "first_name", "name", "first_label", "label"] : List Str)) (h1 : to ≠ "metric" ∧ st ≠ "range_end" ∧ to ≠ "range" ∧ to ≠ "operand") (h : Acc (rfF to "" ir, dp, ir) d r) : Acc (st, dp, ir) d (⟨"word", .str s, k⟩ :: r) :=
  st_go (ok_w hs) (sg_k w_ns) (no_op (wd_br hs).1) hn.1 (cf_nm (lk_wd (wdo_wl hs) (nx_wd st hm)) hn.2.2) hn.2.1 h1 (by rw [dn_s rfl (wd_br hs).1 (wd_br hs).2]; exact h)
theorem st_kw {s : Str} {k : Nat} (hs : WdO s) (hn : st ∉ ENDS ∧ (nxF st).lookup s = some to) (h1 : to ≠ "metric" ∧ st ≠ "range_end" ∧ to ≠ "range" ∧ to ≠ "operand") (h : Acc (rfF to "" ir, dp, ir) d r) : Acc (st, dp, ir) d (⟨"word", .str s, k⟩ :: r) :=
  st_go (ok_w hs) (sg_k w_ns) (no_op (wd_br hs).1) hn.1 (cf_kw (by rw [hn.2]; rfl)) hn.2 h1 (by rw [dn_s rfl (wd_br hs).1 (wd_br hs).2]; exact h)
theorem st_n {i : Int} {k : Nat} (hn : st ∉ ENDS ∧ (nxF st).lookup ("NUMBER" : Str) = some to) (h1 : to ≠ "metric" ∧ st ≠ "range_end" ∧ to ≠ "range" ∧ to ≠ "operand") (h : Acc (rfF to "" ir, dp, ir) d r) : Acc (st, dp, ir) d (⟨"number", .int i, k⟩ :: r) :=
  st_go ok_n (sg_k n_ns) (fun e => by cases e) hn.1 cf_n hn.2 h1 (by rw [dn_i rfl]; exact h)
theorem wd_in : WdO "in" ∧ WdO "not" ∧ WdO "by" := ⟨wd_all _ (by decide), wd_all _ (by decide), wd_all _ (by decide)⟩
/-! lists -/
theorem ju_val {kc : Nat} (h : Acc ("matcher_end", dp, ir) d R) : ∀ (vs : List Str) (k : Nat), (∀ v ∈ vs, StO v) → Acc ("value_end", dp, ir) (d + 1) (pcsK k (juP (vs.map fun v => [.q v])) ++ ⟨"symbol", .str ")", kc⟩ :: R)
  | [], k, _ => st_cl (to := "matcher_end") (by decide +kernel) (by decide) (by rw [rf_id (by decide) (by decide)]; exact h)
  | v :: r, k, hv => by
    show Acc _ _ (pcsK k (.y "," :: .b :: (.q v :: juP (r.map fun v => [.q v]))) ++ _)
    rw [pcsK_cons, pcsK_cons, pcsK_cons]
    refine st_y (s := ",") (to := "values") (by decide) (by decide +kernel) (by decide) ?_
    rw [rf_id (by decide) (by decide)]
    refine st_q (to := "value_end") (hv v List.mem_cons_self) (by decide +kernel) (by decide) ?_
    rw [rf_id (by decide) (by decide)]
    exact ju_val h r _ fun x hx => hv x (List.mem_cons_of_mem _ hx)
theorem in_val {vs : List Str} (k : Nat) (hd : d < 40) (hv : ∀ v ∈ vs, StO v) (hne : vs ≠ []) (h : Acc ("matcher_end", dp, ir) d R) : Acc ("in", dp, ir) d (pcsK k (.y "(" :: (jnP (vs.map fun v => [.q v]) ++ [.y ")"])) ++ R) := by
  obtain ⟨v, r, rfl⟩ := List.exists_cons_of_ne_nil hne
  show Acc _ _ (pcsK k (.y "(" :: (.q v :: (juP (r.map fun v => [.q v]) ++ [.y ")"]))) ++ R)
  rw [pcsK_cons, pcsK_cons, pcsK_app]
  refine st_op (to := "values") hd (by decide +kernel) (by decide) ?_
  rw [rf_id (by decide) (by decide)]
  refine st_q (to := "value_end") (hv v List.mem_cons_self) (by decide +kernel) (by decide) ?_
  rw [rf_id (by decide) (by decide)]
  show Acc _ _ ((pcsK _ _ ++ [⟨"symbol", .str ")", _⟩]) ++ R)
  rw [List.append_assoc]
  exact ju_val h r _ fun x hx => hv x (List.mem_cons_of_mem _ hx)
theorem lb_st : ∀ st ∈ (["first_label", "label"] : List Str), (st ∉ ENDS ∧ (nxF st).lookup ("LABEL" : Str) = some "test") ∧ st ∈ (["operand", "range", "first_name", "name", "first_label", "label"] : List Str) ∧ st ≠ "range_end" := by decide +kernel
theorem go_mt {m : Mt} (k : Nat) (hs : st ∈ (["first_label", "label"] : List Str)) (hd : d < 40) (hm : MtO m) (h : Acc ("matcher_end", dp, ir) d R) : Acc (st, dp, ir) d (pcsK k (mtP m) ++ R) := by
  obtain ⟨nm, vs, b⟩ := m
  have hv : ∀ v ∈ vs, StO v := hm.va
  obtain ⟨l1, l2, l3⟩ := lb_st st hs
  by_cases hl : vs.length = 1
  · match vs, hl with
    | [v], _ =>
      obtain ⟨q, hq, f1, f2⟩ : ∃ q : Str, (if b = true then ("=" : Str) else "!=") = q ∧ (q ∈ SYc ∧ q ≠ "(" ∧ q ≠ ")") ∧ (("test" : Str) ∉ ENDS ∧ (nxF "test").lookup q = some "value") := by
        cases b
        · exact ⟨"!=", rfl, by decide, by decide +kernel⟩
        · exact ⟨"=", rfl, by decide, by decide +kernel⟩
      rw [mtP_1, hq, pcsK_cons, pcsK_cons, pcsK_cons]
      refine st_lb (to := "test") hm.nm l1 l2 ⟨by decide, l3, by decide, by decide⟩ ?_
      rw [rf_id (by decide) (by decide)]
      refine st_y (to := "value") f1 f2 (by decide) ?_
      rw [rf_id (by decide) (by decide)]
      refine st_q (to := "matcher_end") (hv v List.mem_cons_self) (by decide +kernel) (by decide) ?_
      rw [rf_id (by decide) (by decide)]
      exact h
  · cases b with
    | true =>
      rw [mtP_t hl, pcsK_cons, pcsK_cons, pcsK_cons, pcsK_cons]
      refine st_lb (to := "test") hm.nm l1 l2 ⟨by decide, l3, by decide, by decide⟩ ?_
      rw [rf_id (by decide) (by decide)]
      refine st_kw (s := "in") (to := "in") wd_in.1 (by decide +kernel) (by decide) ?_
      rw [rf_id (by decide) (by decide)]
      exact in_val _ hd hv hm.ne h
    | false =>
      rw [mtP_f hl, pcsK_cons, pcsK_cons, pcsK_cons, pcsK_cons, pcsK_cons, pcsK_cons]
      refine st_lb (to := "test") hm.nm l1 l2 ⟨by decide, l3, by decide, by decide⟩ ?_
      rw [rf_id (by decide) (by decide)]
      refine st_kw (s := "not") (to := "not") wd_in.2.1 (by decide +kernel) (by decide) ?_
      rw [rf_id (by decide) (by decide)]
      refine st_kw (s := "in") (to := "in") wd_in.1 (by decide +kernel) (by decide) ?_
      rw [rf_id (by decide) (by decide)]
      exact in_val _ hd hv hm.ne h
theorem ju_mt {kc : Nat} (hd : d < 40) (h : Acc (selE ir, dp, ir) d R) : ∀ (ms : List Mt) (k : Nat), (∀ m ∈ ms, MtO m) → Acc ("matcher_end", dp, ir) d (pcsK k (juP (ms.map mtP)) ++ ⟨"symbol", .str "}", kc⟩ :: R)
  | [], k, _ => st_y (s := "}") (to := "selector_end") (by decide) (by decide +kernel) (by decide) (by rw [rf_sel]; exact h)
  | m :: r, k, hm => by
    show Acc _ _ (pcsK k (.y "," :: .b :: (mtP m ++ juP (r.map mtP))) ++ _)
    rw [pcsK_cons, pcsK_cons, pcsK_app]
    refine st_y (s := ",") (to := "label") (by decide) (by decide +kernel) (by decide) ?_
    rw [rf_id (by decide) (by decide)]
    show Acc _ _ ((pcsK _ (mtP m) ++ pcsK _ (juP (r.map mtP))) ++ _)
    rw [List.append_assoc]
    exact go_mt _ (by decide) hd (hm m List.mem_cons_self) (ju_mt hd h r _ fun x hx => hm x (List.mem_cons_of_mem _ hx))
theorem go_ms {kc : Nat} {ms : List Mt} (k : Nat) (hd : d < 40) (hm : ∀ m ∈ ms, MtO m) (h : Acc (selE ir, dp, ir) d R) : Acc ("first_label", dp, ir) d (pcsK k (jnP (ms.map mtP)) ++ ⟨"symbol", .str "}", kc⟩ :: R) := by
  cases ms with
  | nil => exact st_y (s := "}") (to := "selector_end") (by decide) (by decide +kernel) (by decide) (by rw [rf_sel]; exact h)
  | cons m r =>
    show Acc _ _ (pcsK k (mtP m ++ juP (r.map mtP)) ++ _)
    rw [pcsK_app, List.append_assoc]
    exact go_mt _ (by decide) hd (hm m List.mem_cons_self) (ju_mt hd h r _ fun x hx => hm x (List.mem_cons_of_mem _ hx))
theorem ju_nm {kc : Nat} (h : Acc ("inner", dp, ir) d R) : ∀ (ns : List Str) (k : Nat), (∀ v ∈ ns, WdO v) → Acc ("name_end", dp, ir) (d + 1) (pcsK k (juP (ns.map fun v => [.w v])) ++ ⟨"symbol", .str ")", kc⟩ :: R)
  | [], k, _ => st_cl (to := "inner") (by decide +kernel) (by decide) (by rw [rf_id (by decide) (by decide)]; exact h)
  | v :: r, k, hv => by
    show Acc _ _ (pcsK k (.y "," :: .b :: (.w v :: juP (r.map fun v => [.w v]))) ++ _)
    rw [pcsK_cons, pcsK_cons, pcsK_cons]
    refine st_y (s := ",") (to := "name") (by decide) (by decide +kernel) (by decide) ?_
    rw [rf_id (by decide) (by decide)]
    refine st_nm (to := "name_end") (hv v List.mem_cons_self) (by decide +kernel) (by decide) (by decide) ?_
    rw [rf_id (by decide) (by decide)]
    exact ju_nm h r _ fun x hx => hv x (List.mem_cons_of_mem _ hx)
theorem by_nm {ns : List Str} (k : Nat) (hd : d < 40) (hv : ∀ v ∈ ns, WdO v) (h : Acc ("inner", dp, ir) d R) : Acc ("by", dp, ir) d (pcsK k (.y "(" :: (jnP (ns.map fun v => [.w v]) ++ [.y ")", .b])) ++ R) := by
  cases ns with
  | nil =>
    refine st_op (to := "first_name") hd (by decide +kernel) (by decide) ?_
    rw [rf_id (by decide) (by decide)]
    exact st_cl (to := "inner") (by decide +kernel) (by decide) (by rw [rf_id (by decide) (by decide)]; exact h)
  | cons v r =>
    show Acc _ _ (pcsK k (.y "(" :: (.w v :: (juP (r.map fun v => [.w v]) ++ [.y ")", .b]))) ++ R)
    rw [pcsK_cons, pcsK_cons, pcsK_app]
    refine st_op (to := "first_name") hd (by decide +kernel) (by decide) ?_
    rw [rf_id (by decide) (by decide)]
    refine st_nm (to := "name_end") (hv v List.mem_cons_self) (by decide +kernel) (by decide) (by decide) ?_
    rw [rf_id (by decide) (by decide)]
    show Acc _ _ ((pcsK _ _ ++ [⟨"symbol", .str ")", _⟩]) ++ R)
    rw [List.append_assoc]
    exact ju_nm h r _ fun x hx => hv x (List.mem_cons_of_mem _ hx)
end
section
variable {dp : Int} {R : List Tkn}
theorem en_ne : ∀ st ∈ ENDS, st ≠ "range_end" := by decide +kernel
/-- behind an operand -/
theorem go_sg {st s : Str} (k : Nat) (hs : st ∈ ENDS) (h : s ∈ SGs) (a : Acc ("operand", dp, false) dp R) : Acc (st, dp, false) dp (pcK k (sgP s) ++ R) := by
  have hl : (chF st dp).lookup s = some "operand" := by rw [ch_b2]; exact end_sg st hs _ (b_in _) s h
  have nt := sgn12 s h
  have fin : ∀ t : Tkn, t.v = .str s → Acc (rfF "operand" (tkV (tokD t)) (nbI st "operand" false), nbD st s "operand" dp, nbI st "operand" false) (dn dp t) R := fun t tv => by
    rw [ni_id (en_ne st hs) (by decide), rf_id (by decide) (by decide), nb_same (fun z => nt.2.1 z.1) (fun z => nt.1 z.1), dn_s tv nt.1 nt.2.1]
    exact a
  unfold sgP
  split
  · next hw => exact acc_mk (c := s) (to := "operand") (t := ⟨"word", .str s, k⟩) (ok_w (wd_all s (List.mem_append_right _ hw))) (sg_k w_ns) (no_op nt.1) (cf_kw (by rw [hl]; rfl)) hl (fin _ rfl)
  · next hw => exact acc_mk (c := s) (to := "operand") (t := ⟨"symbol", .str s, k⟩) (ok_y (sgs_sy s h hw)) (sg_k y_ns) (no_op nt.1) cf_y hl (fin _ rfl)
theorem go_cl {st : Str} (k : Nat) (hs : st ∈ ENDS) (h0 : 0 ≤ dp) (a : Acc ("operand_end", dp, false) dp R) : Acc (st, dp + 1, false) (dp + 1) (⟨"symbol", .str ")", k⟩ :: R) := by
  have hl : (chF st (dp + 1)).lookup (")" : Str) = some "operand_end" := by
    rw [ch_b2, decide_eq_true (by omega : dp + 1 > 0)]
    exact end_cl st hs
  refine acc_mk (c := ")") (to := "operand_end") (ok_y (by decide)) (sg_k y_ns) (no_op (by decide)) cf_y hl ?_
  rw [ni_id (en_ne st hs) (by decide), rf_id (by decide) (by decide), dn_c rfl]
  have en : nbD st ")" "operand_end" (dp + 1) = dp := by
    unfold nbD
    rw [if_pos ⟨rfl, hs⟩, if_neg (by decide)]
    omega
  rw [en, show dp + 1 - 1 = dp by omega]
  exact a
theorem go_nil {st : Str} (hs : st ∈ ENDS) : Acc (st, 0, false) 0 [] := by
  show ((chF st 0).lookup ("END" : Str)).isSome = true
  rw [ch_b2, decide_eq_false (by decide)]
  exact end_end st hs
/-- at an operand -/
theorem go_num {i : Int} (k : Nat) (a : Acc ("operand_end", dp, false) dp R) : Acc ("operand", dp, false) dp (⟨"number", .int i, k⟩ :: R) :=
  st_n (to := "operand_end") (by decide +kernel) (by decide) (by rw [rf_id (by decide) (by decide)]; exact a)
theorem go_nu {v : Int} (k : Nat) (a : Acc ("operand_end", dp, false) dp R) : Acc ("operand", dp, false) dp (pcsK k (nuP v) ++ R) := by
  unfold nuP
  split
  · refine st_y (s := "-") (to := "minus") (by decide) (by decide +kernel) (by decide) ?_
    rw [rf_id (by decide) (by decide)]
    exact st_n (to := "operand_end") (by decide +kernel) (by decide) (by rw [rf_id (by decide) (by decide)]; exact a)
  · exact go_num k a
theorem go_op (k : Nat) (hd : dp < 40) (a : Acc ("operand", dp + 1, false) (dp + 1) R) : Acc ("operand", dp, false) dp (⟨"symbol", .str "(", k⟩ :: R) := by
  have hn : ("operand" : Str) ∉ ENDS := by decide
  have e : chF "operand" dp = nxF "operand" := if_neg hn
  refine acc_mk (c := "(") (to := "operand") (ok_y (by decide)) (sg_k y_ns) (op_no hd) cf_y (by rw [e]; decide +kernel) ?_
  rw [ni_id (by decide) (by decide), rf_id (by decide) (by decide), dn_o rfl, nb_open (.inr trivial)]
  exact a
theorem go_nm {s : Str} (k : Nat) (hs : WdO s) (a : Acc (rfF "metric" s false, dp, false) dp R) : Acc ("operand", dp, false) dp (⟨"word", .str s, k⟩ :: R) := by
  have hn : ("operand" : Str) ∉ ENDS := by decide
  have e : chF "operand" dp = nxF "operand" := if_neg hn
  refine acc_mk (c := "NAME") (to := "metric") (ok_w hs) (sg_k w_ns) (no_op (wd_br hs).1) (by rw [e]; exact cf_nm (lk_wd (wdo_wl hs) (nx_wd _ (by decide))) (by decide +kernel)) (by rw [e]; decide +kernel) ?_
  rw [ni_id (by decide) (by decide), dn_s rfl (wd_br hs).1 (wd_br hs).2, nb_same (fun z => absurd z.1 (by decide)) (fun z => absurd z.1 (by decide))]
  exact a
theorem rf_ends (s : Str) : rfF "metric" s false ∈ ENDS ∧ ∀ b ∈ [true, false], (chB2 (rfF "metric" s false) b).lookup ("{" : Str) = some "first_label" := by
  rw [rf_met]
  split
  · exact ⟨by decide, fun b hb => (end_br b hb).2.1⟩
  · split
    · exact ⟨by decide, fun b hb => (end_br b hb).2.2.1⟩
    · exact ⟨by decide, fun b hb => (end_br b hb).1⟩
/-- "{" behind a word -/
theorem go_br {st : Str} (k : Nat) (hs : st ∈ ENDS) (hl : (chF st dp).lookup ("{" : Str) = some "first_label") (a : Acc ("first_label", dp, false) dp R) : Acc (st, dp, false) dp (⟨"symbol", .str "{", k⟩ :: R) := by
  refine acc_mk (c := "{") (to := "first_label") (ok_y (by decide)) (sg_k y_ns) (no_op (by decide)) cf_y hl ?_
  rw [ni_id (en_ne st hs) (by decide), rf_id (by decide) (by decide), dn_s rfl (by decide) (by decide), nb_same (fun z => absurd z.1 (by decide)) (fun z => absurd z.1 (by decide))]
  exact a
theorem go_se {m : Str} {ms : List Mt} (k : Nat) (hd : dp < 40) (h1 : WdO m) (h2 : ∀ x ∈ ms, MtO x) (a : ∀ st ∈ ENDS, Acc (st, dp, false) dp R) : Acc ("operand", dp, false) dp (pcsK k (seP m ms) ++ R) := by
  have re := rf_ends m
  unfold seP
  split
  · exact go_nm k h1 (a _ re.1)
  · rw [pcsK_cons, pcsK_cons, pcsK_app]
    refine go_nm k h1 (go_br _ re.1 (by rw [ch_b2]; exact re.2 _ (b_in _)) ?_)
    show Acc _ _ ((pcsK _ _ ++ [⟨"symbol", .str "}", _⟩]) ++ R)
    rw [List.append_assoc]
    exact go_ms _ hd h2 (a "operand_end" (by decide))
/-- an aggregation up to its inner expression -/
theorem go_agg {w : Str} {ns : List Str} {p : List Pc} (k : Nat) (h0 : 0 ≤ dp) (hd : dp + 1 < 40) (h1 : w ∈ AGs) (h2 : ∀ x ∈ ns, WdO x) (a : ∀ (K : Nat) (c : Tkn), c = ⟨"symbol", .str ")", c.n⟩ → Acc ("operand", dp + 1, false) (dp + 1) (pcsK K p ++ c :: R)) : Acc ("operand", dp, false) dp (pcsK k (hdP w ns ++ (.y "(" :: (p ++ [.y ")"]))) ++ R) := by
  rw [pcsK_app, pcsK_cons, pcsK_app, List.append_assoc]
  have hA := rf_met w
  rw [if_neg (ag_no w h1).2.2, if_pos h1] at hA
  have inner : ∀ (K K2 K3 : Nat), Acc ("operand", dp + 1, false) (dp + 1) ((pcsK K p ++ [⟨"symbol", .str ")", K3⟩]) ++ R) := fun K K2 K3 => by
    rw [List.append_assoc]
    exact a K ⟨"symbol", .str ")", K3⟩ rfl
  unfold hdP
  split
  · rw [pcsK_cons, pcsK_cons, pcsK_cons, pcsK_cons]
    refine go_nm k (ag_wd h1) ?_
    rw [hA]
    have hl : (chF "aggregate_word" dp).lookup ("by" : Str) = some "by" := by rw [ch_b2]; exact (end_br _ (b_in _)).2.2.2.2.2
    refine acc_mk (c := "by") (to := "by") (t := ⟨"word", .str "by", _⟩) (ok_w wd_in.2.2) (sg_k w_ns) (no_op (by decide)) (cf_kw (by rw [hl]; rfl)) hl ?_
    rw [ni_id (by decide) (by decide), rf_id (by decide) (by decide), dn_s rfl (by decide) (by decide), nb_same (fun z => absurd z.1 (by decide)) (fun z => absurd z.1 (by decide))]
    refine by_nm _ (by omega) h2 ?_
    have hn : ("inner" : Str) ∉ ENDS := by decide
    have e : chF "inner" dp = nxF "inner" := if_neg hn
    refine acc_mk (c := "(") (to := "operand") (ok_y (by decide)) (sg_k y_ns) (op_no (by omega)) cf_y (by rw [e]; decide +kernel) ?_
    rw [ni_id (by decide) (by decide), rf_id (by decide) (by decide), dn_o rfl, nb_open (.inr trivial)]
    exact inner _ 0 _
  · refine go_nm k (ag_wd h1) ?_
    rw [hA]
    have hl : (chF "aggregate_word" dp).lookup ("(" : Str) = some "operand" := by rw [ch_b2]; exact (end_br _ (b_in _)).2.2.2.2.1
    refine acc_mk (c := "(") (to := "operand") (ok_y (by decide)) (sg_k y_ns) (op_no (by omega)) cf_y hl ?_
    rw [ni_id (by decide) (by decide), rf_id (by decide) (by decide), dn_o rfl, nb_open (.inr trivial)]
    exact inner _ 0 _
end
/-- back to the walk's own words -/
theorem acc_to : ∀ (ts : List Tkn) (s : WkS) (d : Int), Acc s d ts → (wkR s (ts.map tokD)).2 = none ∧ ((chF (wkR s (ts.map tokD)).1.1 (wkR s (ts.map tokD)).1.2.1).lookup ("END" : Str)).isSome = true ∧ ∀ t ∈ ts, OkT t
  | [], s, d, h => ⟨rfl, h, fun t ht => by cases ht⟩
  | t :: r, s, d, h => by
    obtain ⟨o1, o2, h20, s', hs, ha⟩ := h
    obtain ⟨a1, a2, a4⟩ := acc_to r s' _ ha
    have e : wkR s ((t :: r).map tokD) = wkR s' (r.map tokD) := by
      show (match tkStep s (tokD t) with | none => (s, some (tokD t)) | some s' => wkR s' (r.map tokD)) = _
      rw [hs]
    rw [e]
    refine ⟨a1, a2, fun x hx => ?_⟩
    rcases List.mem_cons.mp hx with rfl | hx
    · exact o1
    · exact a4 x hx
theorem scan_len3 {t : Str} : (scanF t).1.length ≤ 301 := by
  unfold scanF
  split
  · exact Nat.zero_le _
  · have := lex_len (t := t) (t.length + 1) 0 []
    have e : ([] : List PyData).length = 0 := rfl
    unfold lexF
    omega
theorem ct_of {C : Addr} {t : Str} {l : List PyData} (h : scanF t = (l, none)) (a1 : (wkR W0 l).2 = none) (a2 : ((chF (wkR W0 l).1.1 (wkR W0 l).1.2.1).lookup ("END" : Str)).isSome = true) : ctO C t = .val (.list l) := by
  unfold ctO
  rw [h]
  show (match (wkR W0 l).2 with | some x => Out.exc C [("place", tkP x), ("fault", .str "token")] | none => if ((chF (wkR W0 l).1.1 (wkR W0 l).1.2.1).lookup ("END" : Str)).isSome = true then Out.val (.list l) else exc2 C "end" t.length) = _
  rw [a1]
  exact if_pos a2
/-! ### expressions are plain; the characters of names and worths -/
theorem eqP_same {g : Gd} {x : PyData} (hx : Pl 40 x) : RB g (rEqP g.K) x x (.bool true) := by
  have := eqP_d (g := g) hx hx
  rw [hx.refl] at this
  exact this
/-! ### operators and their places -/
def ndE : Nat → Xp → List (Xp × Nat)
  | k, .agg w ns e => ndE (k + (pcsC (hdP w ns)).length + 1) e ++ [(.agg w ns e, k)]
  | k, .bin s l r => (if decide (strF l < strF (.bin s l r)) = true then ndE (k + 1) l else ndE k l) ++ ((if decide (strF r ≤ strF (.bin s l r)) = true then ndE (k + (pcsC (siP (exP l) (decide (strF l < strF (.bin s l r))))).length + 1 + (pcC (sgP s)).length + 1 + 1) r else ndE (k + (pcsC (siP (exP l) (decide (strF l < strF (.bin s l r))))).length + 1 + (pcC (sgP s)).length + 1) r) ++ [(.bin s l r, k + (pcsC (siP (exP l) (decide (strF l < strF (.bin s l r))))).length + 1)])
  | _, _ => []
def noK : Ki → Bool
  | .no => true
  | _ => false
def isF (e : Xp) : Bool := noK (kif e) && match e with
  | .agg _ _ x => !noK (kif x)
  | .bin _ l r => !noK (kif l) && !noK (kif r)
  | _ => false
def orN : Option Nat → Option Nat → Option Nat
  | some q, _ => some q
  | none, o => o
theorem orN_as (a b c : Option Nat) : orN (orN a b) c = orN a (orN b c) := by cases a <;> rfl
def fstF : List (Xp × Nat) → Option Nat
  | [] => none
  | p :: r => if isF p.1 = true then some p.2 else fstF r
theorem fst_app : ∀ a b : List (Xp × Nat), fstF (a ++ b) = orN (fstF a) (fstF b)
  | [], b => rfl
  | p :: a, b => by
    show (if isF p.1 = true then some p.2 else fstF (a ++ b)) = orN (if isF p.1 = true then some p.2 else fstF a) (fstF b)
    by_cases h : isF p.1 = true
    · rw [if_pos h, if_pos h]; rfl
    · rw [if_neg h, if_neg h, fst_app a b]
theorem fst_flt : ∀ l : List (Xp × Nat), fstF l = ((l.filter fun p => isF p.1).map (·.2)).head?
  | [] => rfl
  | p :: l => by
    show (if isF p.1 = true then some p.2 else fstF l) = _
    by_cases h : isF p.1 = true
    · rw [if_pos h, List.filter_cons_of_pos (p := fun p : Xp × Nat => isF p.1) h]; rfl
    · rw [if_neg h, List.filter_cons_of_neg (p := fun p : Xp × Nat => isF p.1) h, fst_flt l]
theorem kn_one {S S1 : List Ki} {x : Sx} {n : Nat} {r : List MkT} {kv : Ki} (h : kiS S x = some (kv, S1)) : knL S ((x, n) :: r) = orN (if noK kv = true then some n else none) (knL (kv :: S1) r) := by
  rw [knL]
  show (match kiS S x with | none => none | some (.no, _) => some n | some (k, S') => knL (k :: S') r) = _
  rw [h]
  cases kv <;> rfl
theorem no_ne {k : Ki} (h : k ≠ .no) : noK k = false := by cases k <;> first | rfl | exact absurd rfl h
/-- the kinds' check tells the first operator that has none -/
theorem kn_ex : ∀ (e : Xp) (k : Nat) (S : List Ki) (r : List MkT), knL S (mkE k e ++ r) = orN (fstF (ndE k e)) (knL (kif e :: S) r) ∧ (fstF (ndE k e) = none → kif e ≠ .no)
  | .num v, k, S, r => ⟨rfl, fun _ h => by cases h⟩
  | .lat m ms, k, S, r => ⟨rfl, fun _ h => by cases h⟩
  | .ovr w m ms n, k, S, r => ⟨rfl, fun _ h => by cases h⟩
  | .agg w ns e, k, S, r => by
    obtain ⟨h1, h2⟩ := kn_ex e (k + (pcsC (hdP w ns)).length + 1) S ((.ag w ns, k) :: r)
    have em : mkE k (.agg w ns e) ++ r = mkE (k + (pcsC (hdP w ns)).length + 1) e ++ (.ag w ns, k) :: r := by
      show (mkE _ e ++ [((.ag w ns, k) : MkT)]) ++ r = _
      rw [List.append_assoc]; rfl
    have en : ndE k (.agg w ns e) = ndE (k + (pcsC (hdP w ns)).length + 1) e ++ [(.agg w ns e, k)] := rfl
    rw [em, en, h1, fst_app, orN_as]
    cases hf : fstF (ndE (k + (pcsC (hdP w ns)).length + 1) e) with
    | some p => exact ⟨rfl, fun z => by cases z⟩
    | none =>
      have hk := no_ne (h2 hf)
      have ek : kif (.agg w ns e) = if eqN "vector" (kif e) = true then .vec else .no := by
        show (match kif e with | .vec => Ki.vec | _ => Ki.no) = _
        cases kif e <;> rfl
      have eF : isF (.agg w ns e) = (noK (kif (.agg w ns e)) && !noK (kif e)) := rfl
      rw [hk, Bool.not_false, Bool.and_true] at eF
      have k1 := kn_one (S := kif e :: S) (S1 := S) (x := .ag w ns) (n := k) (r := r) (kv := kif (.agg w ns e)) (by rw [ek]; rfl)
      have f1 : fstF [(Xp.agg w ns e, k)] = if noK (kif (.agg w ns e)) = true then some k else none := by
        show (if isF (Xp.agg w ns e) = true then some k else none) = _
        rw [eF]
      rw [f1]
      refine ⟨k1, fun z hn => ?_⟩
      have z : (if noK (kif (.agg w ns e)) = true then some k else none) = none := z
      rw [hn] at z
      cases z
  | .bin s a b, k, S, r => by
    have two : ∀ (K1 K2 K3 : Nat), knL S (mkE K1 a ++ (mkE K2 b ++ (.bi s, K3) :: r)) = orN (fstF (ndE K1 a ++ (ndE K2 b ++ [(Xp.bin s a b, K3)]))) (knL (kif (.bin s a b) :: S) r) ∧ (fstF (ndE K1 a ++ (ndE K2 b ++ [(Xp.bin s a b, K3)])) = none → kif (.bin s a b) ≠ .no) := fun K1 K2 K3 => by
      obtain ⟨h1, h2⟩ := kn_ex a K1 S (mkE K2 b ++ (.bi s, K3) :: r)
      rw [h1, fst_app, orN_as]
      cases hf : fstF (ndE K1 a) with
      | some p => exact ⟨rfl, fun z => by cases z⟩
      | none =>
        have ha := no_ne (h2 hf)
        obtain ⟨g1, g2⟩ := kn_ex b K2 (kif a :: S) ((.bi s, K3) :: r)
        rw [g1, fst_app]
        cases hg : fstF (ndE K2 b) with
        | some p => exact ⟨rfl, fun z => by cases z⟩
        | none =>
          have hb := no_ne (g2 hg)
          have eF : isF (.bin s a b) = (noK (kif (.bin s a b)) && (!noK (kif a) && !noK (kif b))) := rfl
          rw [ha, hb] at eF
          have eF : isF (.bin s a b) = noK (kif (.bin s a b)) := by rw [eF]; simp
          have k1 := kn_one (S := kif b :: kif a :: S) (S1 := S) (x := .bi s) (n := K3) (r := r) (kv := kif (.bin s a b)) rfl
          have f1 : fstF [(Xp.bin s a b, K3)] = if noK (kif (.bin s a b)) = true then some K3 else none := by
            show (if isF (Xp.bin s a b) = true then some K3 else none) = _
            rw [eF]
          rw [f1]
          refine ⟨k1, fun z hn => ?_⟩
          have z : (if noK (kif (.bin s a b)) = true then some K3 else none) = none := z
          rw [hn] at z
          cases z
    have asc : ∀ (A B : List MkT) (x : MkT), (A ++ (B ++ [x])) ++ r = A ++ (B ++ x :: r) := fun A B x => by simp [List.append_assoc]
    unfold mkE ndE
    rw [asc]
    cases decide (strF a < strF (.bin s a b)) <;> cases decide (strF b ≤ strF (.bin s a b)) <;> exact two _ _ _
/-! sizes and spans of what the law builds -/
theorem cnt_app (w : Str) (a b : List MkT) : cntW w (a ++ b) = cntW w a + cntW w b := List.countP_append
theorem cnt_ex : ∀ (e : Xp) (k : Nat), cntW "latest" (mkE k e) + cntW "over" (mkE k e) = sels e ∧ cntW "binary" (mkE k e) + cntW "aggregate" (mkE k e) = opsN e
  | .num v, k => ⟨rfl, rfl⟩
  | .lat m ms, k => ⟨rfl, rfl⟩
  | .ovr w m ms n, k => ⟨rfl, rfl⟩
  | .agg w ns e, k => by
    obtain ⟨h1, h2⟩ := cnt_ex e (k + (pcsC (hdP w ns)).length + 1)
    have em : mkE k (.agg w ns e) = mkE (k + (pcsC (hdP w ns)).length + 1) e ++ [(.ag w ns, k)] := rfl
    rw [em, cnt_app, cnt_app, cnt_app, cnt_app]
    have a1 : cntW "latest" [((.ag w ns, k) : MkT)] = 0 := rfl
    have a2 : cntW "over" [((.ag w ns, k) : MkT)] = 0 := rfl
    have a3 : cntW "binary" [((.ag w ns, k) : MkT)] = 0 := rfl
    have a4 : cntW "aggregate" [((.ag w ns, k) : MkT)] = 1 := rfl
    have e1 : sels (.agg w ns e) = sels e := rfl
    have e2 : opsN (.agg w ns e) = opsN e + 1 := rfl
    omega
  | .bin s a b, k => by
    have two : ∀ (K1 K2 K3 : Nat), cntW "latest" (mkE K1 a ++ (mkE K2 b ++ [((.bi s, K3) : MkT)])) + cntW "over" (mkE K1 a ++ (mkE K2 b ++ [((.bi s, K3) : MkT)])) = sels (.bin s a b) ∧ cntW "binary" (mkE K1 a ++ (mkE K2 b ++ [((.bi s, K3) : MkT)])) + cntW "aggregate" (mkE K1 a ++ (mkE K2 b ++ [((.bi s, K3) : MkT)])) = opsN (.bin s a b) := fun K1 K2 K3 => by
      obtain ⟨h1, h2⟩ := cnt_ex a K1
      obtain ⟨g1, g2⟩ := cnt_ex b K2
      simp only [cnt_app]
      have a1 : cntW "latest" [((.bi s, K3) : MkT)] = 0 := rfl
      have a2 : cntW "over" [((.bi s, K3) : MkT)] = 0 := rfl
      have a3 : cntW "binary" [((.bi s, K3) : MkT)] = 1 := rfl
      have a4 : cntW "aggregate" [((.bi s, K3) : MkT)] = 0 := rfl
      have e1 : sels (.bin s a b) = sels a + sels b := rfl
      have e2 : opsN (.bin s a b) = opsN a + opsN b + 1 := rfl
      omega
    unfold mkE
    cases decide (strF a < strF (.bin s a b)) <;> cases decide (strF b ≤ strF (.bin s a b)) <;> exact two _ _ _
/-! the law's expressions are sound -/
/-! ### parts_of, count_of -/
theorem wd0 {g : Gd} {G : List Sl} {i : Nat} {e : Xp} (h : G[i]? = some (.fz (exD e))) : E g (tOp (rIx g.K) (tVar i) (tC (.int 0))) G (.str (wrd e)) := by
  obtain ⟨l, hl, h0⟩ := ex_tup e
  rw [hl] at h
  exact e_op (e_var h) e_int (ix_t h0)
section
variable {P : Program} {w : World} {K : PySem.W.Frag} {mg : Str → Option Value} {base : Heap} {f : Addr} {fd : FuncData} {Tb : List Addr} {k : Nat}
def R_parts : List PyData → PyData → Prop := fun ds d => ∃ e : Xp, ds = [exD e] ∧ d = .list ((partsF e).map exD)
theorem wd_is {g : Gd} {G : List Sl} {i : Nat} {e : Xp} (h : G[i]? = some (.fz (exD e))) (x : Str) : T g (tTest (tOp (rEqU g.K) (tOp (rIx g.K) (tVar i) (tC (.int 0))) (tC (.str x)))) G (decide (wrd e = x)) := t_test (b_op (E.b (wd0 h)) (E.b e_str) eq_s rfl)
theorem ok_parts (Fn : Fun K "parts_of" "parts_of" s_parts_of f fd) (hm : mg "parts_of" = some (.ref f)) (hb : Binds K fd ["expression"] []) (Z : Zb mg) :
    Df P w K mg base 1 "parts_of" ["expression"] (spD K Tb R_parts) := by
  refine df_D Fn sc_parts_of hm hb (fun ds d h => by obtain ⟨_, rfl, _⟩ := h; rfl) fun cdv A outer s H Ek hr => ⟨_, (pss_cons (ps_if (pt_cmpR (uEqK K hr.units) (pe_ix (ix_seqK K) (pv 0) pe_int (fun _ _ => rfl)) pe_str (nomark _)) (pss_one (ps_ret (pe_lst (pa_cons (pe_ix (ix_seqK K) (pv 0) pe_int (fun _ _ => rfl)) (pa_cons (pe_ix (ix_seqK K) (pv 0) pe_int (fun _ _ => rfl)) pa_nil))))) pss_nil)
      (pss_cons (ps_if (pt_cmpR (uEqK K hr.units) (pe_ix (ix_seqK K) (pv 0) pe_int (fun _ _ => rfl)) pe_str (nomark _)) (pss_one (ps_ret (pe_lst (pa_cons (pe_ix (ix_seqK K) (pv 0) pe_int (fun _ _ => rfl)) pa_nil)))) pss_nil)
      (pss_one (ps_ret (pe_lst pa_nil))))),  fun ds d F0 H0 Q r rt => ?_⟩
  obtain ⟨e, rfl, rfl⟩ := r
  refine q_if (b := decide (wrd e = "binary")) (wd_is (e := e) rfl _) (fun h => ?_) fun h => s_next (n_go ?_)
  · have h := of_decide_eq_true h
    cases e with
    | num _ => exact absurd h kw1.2.2.2
    | lat _ _ => exact absurd h kw2.2.2.2
    | ovr _ _ _ _ => exact absurd h kw3.2.2.2
    | agg _ _ _ => exact absurd h kw4.2.2.2
    | bin s l r => exact s_ret (d := .list [exD l, exD r]) (EL.e (el_lst (a_cons (e_op (e_var rfl) e_int (ix_t rfl)) (a_cons (e_op (e_var rfl) e_int (ix_t rfl)) a_nil)) (Nat.le_of_ble_eq_true rfl))) rt
  have h1 := of_decide_eq_false h
  refine q_if (b := decide (wrd e = "aggregate")) (wd_is (e := e) rfl _) (fun h => ?_) fun h => s_next (n_go ?_)
  · have h := of_decide_eq_true h
    cases e with
    | num _ => exact absurd h kw1.2.2.1
    | lat _ _ => exact absurd h kw2.2.2.1
    | ovr _ _ _ _ => exact absurd h kw3.2.2.1
    | agg wo ks e => exact s_ret (d := .list [exD e]) (EL.e (el_lst (a_cons (e_op (e_var rfl) e_int (ix_t rfl)) a_nil) (Nat.le_of_ble_eq_true rfl))) rt
    | bin s l r => exact absurd rfl h1
  have h2 := of_decide_eq_false h
  have e0 : partsF e = [] := by
    cases e with
    | agg _ _ _ => exact absurd rfl h2
    | bin _ _ _ => exact absurd rfl h1
    | _ => rfl
  rw [e0] at rt
  exact s_ret (d := .list []) (EL.e (el_lst a_nil (by decide))) rt
end
def sel1 : Xp → Int
  | .lat _ _ => 1
  | .ovr _ _ _ _ => 1
  | _ => 0
def op1 : Xp → Int
  | .agg _ _ _ => 1
  | .bin _ _ _ => 1
  | _ => 0
def sumP (q : Xp → Nat) (l : List Xp) : Int := (l.map fun p => (q p : Int)).sum
theorem sumP_snoc (q : Xp → Nat) (l : List Xp) (p : Xp) : sumP q (l ++ [p]) = sumP q l + q p := by
  unfold sumP
  rw [List.map_append, List.sum_append]
  show _ + ((q p : Int) + 0) = _
  omega
theorem sel1_sum (e : Xp) : sel1 e + sumP sels (partsF e) = sels e := by
  cases e with
  | num _ => rfl
  | lat _ _ => rfl
  | ovr _ _ _ _ => rfl
  | agg _ _ e => show (0 : Int) + ((sels e : Int) + 0) = (sels e : Int); omega
  | bin _ l r => show (0 : Int) + ((sels l : Int) + ((sels r : Int) + 0)) = ((sels l + sels r : Nat) : Int); omega
theorem op1_sum (e : Xp) : op1 e + sumP opsN (partsF e) = opsN e := by
  cases e with
  | num _ => rfl
  | lat _ _ => rfl
  | ovr _ _ _ _ => rfl
  | agg _ _ e => show (1 : Int) + ((opsN e : Int) + 0) = ((opsN e + 1 : Nat) : Int); omega
  | bin _ l r => show (1 : Int) + ((opsN l : Int) + ((opsN r : Int) + 0)) = ((opsN l + opsN r + 1 : Nat) : Int); omega
section
variable {P : Program} {w : World} {K : PySem.W.Frag} {mg : Str → Option Value} {base : Heap} {f : Addr} {fd : FuncData} {Tb : List Addr} {k : Nat}
theorem wdi_in {g : Gd} {G : List Sl} {i : Nat} {e : Xp} (h : G[i]? = some (.fz (exD e))) (x y : Str) : T g (tTest (tOp (rInU g.K) (tOp (rIx g.K) (tVar i) (tC (.int 0))) (tTup (tCons (tC (.str x)) (tCons (tC (.str y)) tNil))))) G (inD (.str (wrd e)) [.str x, .str y]) :=
  t_test (b_op (E.b (wd0 h)) (E.b (e_tup (ds := [.str x, .str y]) (a_cons e_str (a_cons e_str a_nil)) (Nat.le_of_ble_eq_true rfl))) (in_t rfl rfl) rfl)
theorem in_sel (e : Xp) : inD (.str (wrd e)) [.str "latest", .str "over"] = decide (sel1 e = 1) := by
  have h : inD (.str (wrd e)) [.str "latest", .str "over"] = decide (wrd e ∈ (["latest", "over"] : List Str)) := inD_str _ ["latest", "over"]
  rw [h]
  cases e with
  | num _ => show decide (("number" : Str) ∈ (["latest", "over"] : List Str)) = decide ((0 : Int) = 1); decide +kernel
  | lat _ _ => show decide (("latest" : Str) ∈ (["latest", "over"] : List Str)) = decide ((1 : Int) = 1); decide +kernel
  | ovr _ _ _ _ => show decide (("over" : Str) ∈ (["latest", "over"] : List Str)) = decide ((1 : Int) = 1); decide +kernel
  | agg _ _ _ => show decide (("aggregate" : Str) ∈ (["latest", "over"] : List Str)) = decide ((0 : Int) = 1); decide +kernel
  | bin _ _ _ => show decide (("binary" : Str) ∈ (["latest", "over"] : List Str)) = decide ((0 : Int) = 1); decide +kernel
theorem in_op (e : Xp) : inD (.str (wrd e)) [.str "binary", .str "aggregate"] = decide (op1 e = 1) := by
  have h : inD (.str (wrd e)) [.str "binary", .str "aggregate"] = decide (wrd e ∈ (["binary", "aggregate"] : List Str)) := inD_str _ ["binary", "aggregate"]
  rw [h]
  cases e with
  | num _ => show decide (("number" : Str) ∈ (["binary", "aggregate"] : List Str)) = decide ((0 : Int) = 1); decide +kernel
  | lat _ _ => show decide (("latest" : Str) ∈ (["binary", "aggregate"] : List Str)) = decide ((0 : Int) = 1); decide +kernel
  | ovr _ _ _ _ => show decide (("over" : Str) ∈ (["binary", "aggregate"] : List Str)) = decide ((0 : Int) = 1); decide +kernel
  | agg _ _ _ => show decide (("aggregate" : Str) ∈ (["binary", "aggregate"] : List Str)) = decide ((1 : Int) = 1); decide +kernel
  | bin _ _ _ => show decide (("binary" : Str) ∈ (["binary", "aggregate"] : List Str)) = decide ((1 : Int) = 1); decide +kernel
theorem sel1_01 (e : Xp) (h : decide (sel1 e = 1) = false) : sel1 e = 0 := by cases e <;> first | rfl | cases h
theorem op1_01 (e : Xp) (h : decide (op1 e = 1) = false) : op1 e = 0 := by cases e <;> first | rfl | cases h
def R_co (n : Nat) : List PyData → PyData → Prop := fun ds d => ∃ e : Xp, ds = [exD e] ∧ dep e < n ∧ d = .tuple [.int (sels e : Nat), .int (opsN e : Nat)]
theorem ok_co (Fn : Fun K "count_of" "count_of" s_count_of f fd) (hm : mg "count_of" = some (.ref f)) (hb : Binds K fd ["expression"] []) (Z : Zb mg)
    (D_parts_of : Df P w K mg base 1 "parts_of" ["expression"] (spD K Tb R_parts)) : ∀ k, Df P w K mg base (k + 1) "count_of" ["expression"] (spD K Tb (R_co k))
  | 0 => df_no Fn hm hb fun ds d ⟨e, _, h, _⟩ => absurd h (Nat.not_lt_zero _)
  | k + 1 => by
    have D_count_of := ok_co Fn hm hb Z D_parts_of k
    refine df_D Fn sc_count_of hm hb (fun ds d h => by obtain ⟨e, rfl, _⟩ := h; rfl) fun cdv A outer s H Ek hr => ⟨_, (pss_cons (ps_set (i := 1) sc_count_of.nd rfl (by first | exact .inl rfl | exact .inr rfl) (pe_ifExp (pt_cmpR (uInK K) (pe_ix (ix_seqK K) (pv 0) pe_int (fun _ _ => rfl)) (pe_tup (pa_cons pe_str (pa_cons pe_str pa_nil))) (by rfl)) pe_int pe_int))
      (pss_cons (ps_set (i := 2) sc_count_of.nd rfl (by first | exact .inl rfl | exact .inr rfl) (pe_ifExp (pt_cmpR (uInK K) (pe_ix (ix_seqK K) (pv 0) pe_int (fun _ _ => rfl)) (pe_tup (pa_cons pe_str (pa_cons pe_str pa_nil))) (by rfl)) pe_int pe_int))
      (pss_cons (ps_for PassesOwn.never rfl (pi_any (pe_df D_parts_of hr (by first | decide | exact Nat.le_refl _ | omega) (by rfl) (pa_cons (pv 0) pa_nil))) (pg_name (i := 3) sc_count_of.nd rfl (by first | exact .inl rfl | exact .inr rfl)) (pss_cons (ps_asg (pe_df D_count_of hr (by first | decide | exact Nat.le_refl _ | omega) (by rfl) (pa_cons (pv 3) pa_nil)) (pg_tupK (n := 2) K rfl (pgs_cons (pg_name (i := 4) sc_count_of.nd rfl (by first | exact .inl rfl | exact .inr rfl)) (pgs_cons (pg_name (i := 5) sc_count_of.nd rfl (by first | exact .inl rfl | exact .inr rfl)) pgs_nil))))
      (pss_cons (ps_aug (i := 1) sc_count_of.nd rfl (by first | exact .inl rfl | exact .inr rfl) (pv 4) ip_add)
      (pss_one (ps_aug (i := 2) sc_count_of.nd rfl (by first | exact .inl rfl | exact .inr rfl) (pv 5) ip_add)))))
      (pss_one (ps_ret (pe_tup (pa_cons (pv 1) (pa_cons (pv 2) pa_nil)))))))),  fun ds d F0 H0 Q r rt => ?_⟩
    obtain ⟨e, rfl, hd, rfl⟩ := r
    refine q_asg (d := .int (sel1 e)) (e_if (b := decide (sel1 e = 1)) (by rw [← in_sel]; exact wdi_in rfl _ _) (fun z => by rw [of_decide_eq_true z]; exact e_int) fun z => by rw [sel1_01 e z]; exact e_int) ?_
    refine q_asg (d := .int (op1 e)) (e_if (b := decide (op1 e = 1)) (by rw [← in_op]; exact wdi_in rfl _ _) (fun z => by rw [of_decide_eq_true z]; exact e_int) fun z => by rw [op1_01 e z]; exact e_int) ?_
    refine q_for1 (fun i => [.fz (exD e), .fz (.int (sel1 e + sumP sels ((partsF e).take i))), .fz (.int (op1 e + sumP opsN ((partsF e).take i))), .un, .un, .un]) (ds := (partsF e).map exD) (it_al (e_call (ds := [exD e]) (a_cons (e_var rfl) a_nil) ⟨e, rfl, rfl⟩)) ?_ (fun F1 i d hd' => ?_) ?_
    · have e1 : sel1 e + sumP sels ((partsF e).take 0) = sel1 e := by rw [List.take_zero]; show sel1 e + 0 = _; omega
      have e2 : op1 e + sumP opsN ((partsF e).take 0) = op1 e := by rw [List.take_zero]; show op1 e + 0 = _; omega
      rw [e1, e2]; exact Wk.refl _
    · obtain ⟨p, hx, rfl⟩ := map_get hd'
      have dp := (parts_dep (List.mem_of_getElem? hx)).1
      refine ⟨_, _, g_name, ?_⟩
      refine q_asgT (d := .tuple [.int (sels p : Nat), .int (opsN p : Nat)]) (e_call (ds := [exD p]) (a_cons (e_var rfl) a_nil) ⟨p, rfl, by omega, rfl⟩) (g_tup (gs_cons g_name (gs_cons g_name gs_nil)) rfl) ?_
      refine q_aug rfl (e_var rfl) (s_aug rfl (e_var rfl) (n_end1 ?_))
      rw [List.take_add_one, hx]
      show Wk _ [_, .fz (.int (sel1 e + sumP sels ((partsF e).take i ++ [p]))), .fz (.int (op1 e + sumP opsN ((partsF e).take i ++ [p]))), _, _, _]
      rw [sumP_snoc, sumP_snoc, ← Int.add_assoc, ← Int.add_assoc]
      exact .keep rfl (.keep rfl (.keep rfl (.drop (.drop (.drop .nil)))))
    rw [List.length_map, List.take_length, sel1_sum, op1_sum]
    exact s_ret (e_tup (ds := [.int (sels e : Nat), .int (opsN e : Nat)]) (a_cons (e_var rfl) (a_cons (e_var rfl) a_nil)) (Nat.le_of_ble_eq_true rfl)) rt
end
/-! ### an expression that has a kind has no fault -/
theorem nd_kn : ∀ (e : Xp) (k : Nat), kif e ≠ .no → ∀ p ∈ ndE k e, kif p.1 ≠ .no
  | .num v, k, hk, p, h => by cases h
  | .lat m ms, k, hk, p, h => by cases h
  | .ovr w m ms n, k, hk, p, h => by cases h
  | .agg w ns e, k, hk, p, h => by
    rcases List.mem_append.mp h with h | h
    · refine nd_kn e _ (fun z => hk ?_) p h
      show (match kif e with | .vec => Ki.vec | _ => Ki.no) = .no
      rw [z]
    · rw [List.mem_singleton.mp h]; exact hk
  | .bin s l r, k, hk, p, h => by
    have hl : kif l ≠ .no := fun z => hk (by show kib s (kif l) (kif r) = .no; rw [z]; rfl)
    have hr : kif r ≠ .no := fun z => hk (by show kib s (kif l) (kif r) = .no; rw [z]; cases kif l <;> rfl)
    unfold ndE at h
    rcases List.mem_append.mp h with h | h
    · split at h <;> exact nd_kn l _ hl p h
    · rcases List.mem_append.mp h with h | h
      · split at h <;> exact nd_kn r _ hr p h
      · rw [List.mem_singleton.mp h]; exact hk
theorem fst_none : ∀ (e : Xp) (k : Nat), kif e ≠ .no → fstF (ndE k e) = none := fun e k h => by
  have h1 := (kn_ex e k [] []).1
  cases hf : fstF (ndE k e) with
  | none => rfl
  | some q =>
    exfalso
    obtain ⟨p, hp, hF⟩ : ∃ p ∈ ndE k e, isF p.1 = true := by
      rw [fst_flt] at hf
      cases hl : (ndE k e).filter fun p => isF p.1 with
      | nil => rw [hl] at hf; cases hf
      | cons p r =>
        have hm : p ∈ (ndE k e).filter fun p => isF p.1 := by rw [hl]; exact List.mem_cons_self
        obtain ⟨m1, m2⟩ := List.mem_filter.mp hm
        exact ⟨p, m1, m2⟩
    have hn : noK (kif p.1) = true := by
      unfold isF at hF
      exact (Bool.and_eq_true_iff.mp hF).1
    exact nd_kn e k h p hp (by cases hk : kif p.1 <;> rw [hk] at hn <;> first | rfl | cases hn)
/-! ### a function over a range whose first matcher is told by a list -/
def inF (x : Mt) : List Pc := .w x.1 :: .b :: .w "in" :: .b :: .y "(" :: (jnP (x.2.1.map fun v => [.q v]) ++ [.y ")"])
def seZ (m : Str) : List Mt → List Pc
  | [] => [.w m]
  | x :: r => .w m :: .y "{" :: ((inF x ++ juP (r.map mtP)) ++ [.y "}"])
def ovZ (w m : Str) (ms : List Mt) (n : Int) : List Pc := .w w :: .y "(" :: (seZ m ms ++ (.y "[" :: (nuP n ++ [.y "]", .y ")"])))
theorem in_O {m : Mt} {R : List Nat} (h : MtO m) (hR : hdB R) : PcsO (inF m) R := by
  have tail : PcsO (jnP (m.2.1.map fun v => [.q v]) ++ [.y ")"]) R := pcsO_app (jn_O _ (fun x hx R' hR' => by
      obtain ⟨v, hv, rfl⟩ := List.mem_map.mp hx
      exact ⟨h.va v hv, trivial⟩) (hd_cl (l := _))) ⟨sy1 (by decide) hR, trivial⟩
  have op : PcO (.y "(") (pcsC (jnP (m.2.1.map fun v => [.q v]) ++ [.y ")"]) ++ R) := ⟨by decide, fun _ => by
      rw [pcsC_app, List.append_assoc]
      exact jq_hd (hd_cl (l := _))⟩
  exact ⟨⟨h.nm.1, (hd_sp (l := _)).w⟩, trivial, ⟨wd_all _ (by decide), (hd_sp (l := _)).w⟩, trivial, op, tail⟩
theorem seZ_O {m : Str} {ms : List Mt} {R : List Nat} (h1 : WdO m) (h2 : ∀ x ∈ ms, MtO x) (hR : hdB R) : PcsO (seZ m ms) R := by
  cases ms with
  | nil => exact ⟨⟨h1, hR.w⟩, trivial⟩
  | cons x r =>
    refine ⟨⟨h1, (hd_ob (l := _)).w⟩, ⟨by decide, fun _ => ?_⟩, pcsO_app (pcsO_app (in_O (h2 x List.mem_cons_self) (ju_hd (hd_cb (l := _)))) (ju_O _ (fun y hy R' hR' => ?_) (hd_cb (l := _)))) ⟨sy1 (by decide) hR, trivial⟩⟩
    · rw [pcsC_app, pcsC_app]
      show (((x.1.cps.toList ++ _) ++ _) ++ _ ++ R).head? ≠ some 61
      rw [List.append_assoc, List.append_assoc, List.append_assoc]
      exact wf_hd (h2 x List.mem_cons_self).nm.1
    · obtain ⟨z, hz, rfl⟩ := List.mem_map.mp hy
      exact mt_O (h2 z (List.mem_cons_of_mem _ hz)) hR'
theorem seZ_hd {m : Str} {ms : List Mt} {R : List Nat} (h1 : WdO m) : (pcsC (seZ m ms) ++ R).head? ≠ some 61 := by
  have e : ∃ l, pcsC (seZ m ms) = m.cps.toList ++ l := by
    cases ms <;> exact ⟨_, rfl⟩
  obtain ⟨l, e⟩ := e
  rw [e, List.append_assoc]
  exact wf_hd h1
theorem ovZ_O {w m : Str} {ms : List Mt} {n : Int} {R : List Nat} (h : ExO (.ovr w m ms n)) (hR : hdB R) : PcsO (ovZ w m ms n) R := by
  obtain ⟨h1, h2, h3, h4, h5⟩ := h
  refine ⟨⟨ov_wd h1, (hd_op (l := _)).w⟩, ⟨by decide, fun _ => ?_⟩, pcsO_app (seZ_O h2 h3 (hd_os (l := _))) ⟨⟨by decide, fun _ => ?_⟩, pcsO_app (nu_O (by omega) ((hd_cs (l := _)).w)) ⟨sy1 (by decide) (hd_cl (l := _)), sy1 (by decide) hR, trivial⟩⟩⟩
  · rw [pcsC_app, List.append_assoc]
    exact seZ_hd h2
  · rw [pcsC_app, List.append_assoc]
    exact ex_hd (.num n) (show n.natAbs ≤ 999999999999999 by omega)
theorem ovZ_hd {w m : Str} {ms : List Mt} {n : Int} {R : List Nat} (h : ExO (.ovr w m ms n)) : (pcsC (ovZ w m ms n) ++ R).head? ≠ some 61 := by
  show ((w.cps.toList ++ _) ++ R).head? ≠ some 61
  rw [List.append_assoc]
  exact wf_hd (ov_wd h.1)
theorem in_rd {m : Mt} {R : List Tkn} (h : MtO m) (hb : m.2.2 = true) (k : Nat) : RdM1 (pcsK k (inF m) ++ R) m R := by
  obtain ⟨nm, vs, b⟩ := m
  have hb : b = true := hb
  subst hb
  have hv : ∀ v ∈ vs, StO v := h.va
  have ls : ∀ k, RdLs (pcsK k (.y "(" :: (jnP (vs.map fun v => [.q v]) ++ [.y ")"])) ++ R) vs R := fun k => by
    rw [pcsK_cons, pcsK_app]
    refine ⟨⟨"symbol", .str "(", k⟩, pcsK (k + (pcC (.y "(")).length) (jnP (vs.map fun v => [.q v])) ++ ⟨"symbol", .str ")", k + (pcC (.y "(")).length + (pcsC (jnP (vs.map fun v => [.q v]))).length⟩ :: R, ⟨"symbol", .str ")", k + (pcC (.y "(")).length + (pcsC (jnP (vs.map fun v => [.q v]))).length⟩, ?_, jn_rd one_q rfl vs _ fun v hv' => (sto_ne (hv v hv')).2⟩
    show ⟨"symbol", .str "(", k⟩ :: ((pcsK (k + (pcC (.y "(")).length) (jnP (vs.map fun v => [.q v])) ++ [⟨"symbol", .str ")", k + (pcC (.y "(")).length + (pcsC (jnP (vs.map fun v => [.q v]))).length⟩]) ++ R) = _
    rw [List.append_assoc]
    rfl
  exact .inn ⟨"word", .str nm, _⟩ ⟨"word", .str "in", _⟩ _ nm vs R rfl rfl (ls _)
theorem seZ_rd {m : Str} {ms : List Mt} {R : List Tkn} (k : Nat) (hm : ∀ x ∈ ms, MtO x) (hb : ∀ x r, ms = x :: r → x.2.2 = true) (hR : ∃ x, peekS R = some x ∧ x ≠ "{") : ∃ T, pcsK k (seZ m ms) ++ R = ⟨"word", .str m, k⟩ :: T ∧ RdMs T ms R ∧ (∃ p, peekS T = some p ∧ (p = "{" ∨ T = R)) := by
  cases ms with
  | nil =>
    obtain ⟨x, hx, nx⟩ := hR
    exact ⟨R, rfl, .inl ⟨rfl, rfl, x, hx, nx⟩, x, hx, .inr rfl⟩
  | cons y r =>
    have m0 := hm y List.mem_cons_self
    let c : Tkn := ⟨"symbol", .str "}", k + (pcC (.w m)).length + (pcC (.y "{")).length + (pcsC (inF y ++ juP (r.map mtP))).length⟩
    obtain ⟨ts2, s2, l2⟩ := jm_rd (c := c) (R := R) rfl r (k + (pcC (.w m)).length + (pcC (.y "{")).length + (pcsC (inF y)).length) fun x hx => hm x (List.mem_cons_of_mem _ hx)
    refine ⟨⟨"symbol", .str "{", k + (pcC (.w m)).length⟩ :: (pcsK (k + (pcC (.w m)).length + (pcC (.y "{")).length) (inF y ++ juP (r.map mtP)) ++ c :: R), ?_, .inr ⟨_, _, c, rfl, rfl, ?_⟩, "{", rfl, .inl rfl⟩
    · show pcsK k (.w m :: .y "{" :: ((inF y ++ juP (r.map mtP)) ++ [.y "}"])) ++ R = _
      rw [pcsK_cons, pcsK_cons, pcsK_app]
      show ⟨"word", .str m, k⟩ :: ⟨"symbol", .str "{", k + (pcC (.w m)).length⟩ :: ((pcsK (k + (pcC (.w m)).length + (pcC (.y "{")).length) (inF y ++ juP (r.map mtP)) ++ [c]) ++ R) = _
      rw [List.append_assoc]
      rfl
    · rw [pcsK_app, List.append_assoc]
      exact .more _ _ ts2 y r _ y.1 rfl (wl_no (wdo_wl m0.nm.1) (by decide)) (in_rd m0 (hb y r rfl) _) s2 l2
theorem rd_ovZ {E0 : RdP} {w m : Str} {ms : List Mt} {n : Int} {R : List Tkn} (k : Nat) (h : ExO (.ovr w m ms n)) (hb : ∀ x r, ms = x :: r → x.2.2 = true) : RdOb E0 (pcsK k (ovZ w m ms n) ++ R) [(.lf (.ovr w m ms n), k + (pcC (.w w)).length + 1 + (pcsC (seZ m ms)).length + 1)] R := by
  obtain ⟨h1, h2, h3, h4, h5⟩ := h
  have e0 : nuP n = [.n n.natAbs] := if_neg (by omega)
  have en : ((n.natAbs : Nat) : Int) = n := by omega
  show RdOb E0 (pcsK k (.w w :: .y "(" :: (seZ m ms ++ (.y "[" :: (nuP n ++ [.y "]", .y ")"])))) ++ R) _ R
  rw [pcsK_cons, pcsK_cons, pcsK_app, e0]
  have ee : ∀ (K1 : Nat), pcsK K1 (.y "[" :: ([.n n.natAbs] ++ [.y "]", .y ")"])) = ([⟨"symbol", .str "[", K1⟩, ⟨"number", .int n, K1 + 1⟩, ⟨"symbol", .str "]", K1 + 1 + (pcC (.n n.natAbs)).length⟩, ⟨"symbol", .str ")", K1 + 1 + (pcC (.n n.natAbs)).length + 1⟩] : List Tkn) := fun K1 => by
    show ([⟨"symbol", .str "[", K1⟩, ⟨"number", .int ((n.natAbs : Nat) : Int), K1 + 1⟩, ⟨"symbol", .str "]", K1 + 1 + (pcC (.n n.natAbs)).length⟩, ⟨"symbol", .str ")", K1 + 1 + (pcC (.n n.natAbs)).length + 1⟩] : List Tkn) = _
    rw [en]
  rw [ee]
  obtain ⟨T, e, hs, _⟩ := seZ_rd (m := m) (ms := ms) (R := ⟨"symbol", .str "[", k + (pcC (.w w)).length + (pcC (.y "(")).length + (pcsC (seZ m ms)).length⟩ :: ⟨"number", .int n, k + (pcC (.w w)).length + (pcC (.y "(")).length + (pcsC (seZ m ms)).length + 1⟩ :: ⟨"symbol", .str "]", k + (pcC (.w w)).length + (pcC (.y "(")).length + (pcsC (seZ m ms)).length + 1 + (pcC (.n n.natAbs)).length⟩ :: ⟨"symbol", .str ")", k + (pcC (.w w)).length + (pcC (.y "(")).length + (pcsC (seZ m ms)).length + 1 + (pcC (.n n.natAbs)).length + 1⟩ :: R) (k + (pcC (.w w)).length + (pcC (.y "(")).length) h3 hb ⟨"[", rfl, by decide⟩
  show RdOb E0 (⟨"word", .str w, k⟩ :: ⟨"symbol", .str "(", _⟩ :: ((pcsK _ (seZ m ms) ++ _) ++ R)) _ R
  rw [List.append_assoc]
  have e2 := e
  refine (show RdOb E0 (⟨"word", .str w, k⟩ :: ⟨"symbol", .str "(", k + (pcC (.w w)).length⟩ :: (pcsK (k + (pcC (.w w)).length + (pcC (.y "(")).length) (seZ m ms) ++ (⟨"symbol", .str "[", k + (pcC (.w w)).length + (pcC (.y "(")).length + (pcsC (seZ m ms)).length⟩ :: ⟨"number", .int n, k + (pcC (.w w)).length + (pcC (.y "(")).length + (pcsC (seZ m ms)).length + 1⟩ :: ⟨"symbol", .str "]", k + (pcC (.w w)).length + (pcC (.y "(")).length + (pcsC (seZ m ms)).length + 1 + (pcC (.n n.natAbs)).length⟩ :: ⟨"symbol", .str ")", k + (pcC (.w w)).length + (pcC (.y "(")).length + (pcsC (seZ m ms)).length + 1 + (pcC (.n n.natAbs)).length + 1⟩ :: R))) [(.lf (.ovr w m ms n), k + (pcC (.w w)).length + 1 + (pcsC (seZ m ms)).length + 1)] R from ?_)
  rw [e]
  exact RdOb.ovr ⟨"word", .str w, k⟩ ⟨"symbol", .str "(", _⟩ ⟨"word", .str m, _⟩ ⟨"number", .int n, _⟩ ⟨"symbol", .str "[", _⟩ ⟨"symbol", .str "]", _⟩ ⟨"symbol", .str ")", _⟩ w m T ms n R wd_nn rfl h1 rfl rfl hs rfl
section
variable {dp d : Int} {ir : Bool} {R : List Tkn} {st : Str}
theorem go_in {m : Mt} (k : Nat) (hs : st ∈ (["first_label", "label"] : List Str)) (hd : d < 40) (hm : MtO m) (h : Acc ("matcher_end", dp, ir) d R) : Acc (st, dp, ir) d (pcsK k (inF m) ++ R) := by
  obtain ⟨l1, l2, l3⟩ := lb_st st hs
  unfold inF
  rw [pcsK_cons, pcsK_cons, pcsK_cons, pcsK_cons]
  refine st_lb (to := "test") hm.nm l1 l2 ⟨by decide, l3, by decide, by decide⟩ ?_
  rw [rf_id (by decide) (by decide)]
  refine st_kw (s := "in") (to := "in") wd_in.1 (by decide +kernel) (by decide) ?_
  rw [rf_id (by decide) (by decide)]
  exact in_val _ hd hm.va hm.ne h
theorem go_ovZ {w m : Str} {ms : List Mt} {n : Int} (k : Nat) (hd : dp + 1 < 40) (h : ExO (.ovr w m ms n)) (a : Acc ("operand_end", dp, false) dp R) : Acc ("operand", dp, false) dp (pcsK k (ovZ w m ms n) ++ R) := by
  obtain ⟨h1, h2, h3, h4, h5⟩ := h
  have e0 : nuP n = [.n n.natAbs] := if_neg (by omega)
  have ee : pcsK k (ovZ w m ms n) ++ R = ⟨"word", .str w, k⟩ :: ⟨"symbol", .str "(", k + (pcC (.w w)).length⟩ :: (pcsK (k + (pcC (.w w)).length + (pcC (.y "(")).length) (seZ m ms) ++ (pcsK (k + (pcC (.w w)).length + (pcC (.y "(")).length + (pcsC (seZ m ms)).length) (.y "[" :: ([.n n.natAbs] ++ [.y "]", .y ")"])) ++ R)) := by
    have e1 : pcsK k (ovZ w m ms n) = pcsK k (.w w :: .y "(" :: (seZ m ms ++ (.y "[" :: ([.n n.natAbs] ++ [.y "]", .y ")"])))) := by
      rw [← e0]; rfl
    rw [e1, pcsK_cons, pcsK_cons, pcsK_app]
    exact two_cat _ _ _ _ _
  rw [ee]
  refine go_nm k (ov_wd h1) ?_
  rw [rf_met, if_pos h1]
  have hl : (chF "over_word" dp).lookup ("(" : Str) = some "range" := by rw [ch_b2]; exact (end_br _ (b_in _)).2.2.2.1
  refine acc_mk (c := "(") (to := "range") (ok_y (by decide)) (sg_k y_ns) (op_no (by omega)) cf_y hl ?_
  rw [show nbI "over_word" "range" false = true from by decide +kernel, rf_id (by decide) (by decide), dn_o rfl, nb_same (fun z => absurd z.1 (by decide)) (fun z => absurd z.2 (by decide))]
  -- the tail
  have tail : ∀ (K : Nat), Acc ("range_selector", dp, true) (dp + 1) (pcsK K (.y "[" :: ([.n n.natAbs] ++ [.y "]", .y ")"])) ++ R) ∧ Acc ("range_metric", dp, true) (dp + 1) (pcsK K (.y "[" :: ([.n n.natAbs] ++ [.y "]", .y ")"])) ++ R) := fun K => by
    have rest : ∀ K, Acc ("span", dp, true) (dp + 1) (pcsK K ([.n n.natAbs] ++ [.y "]", .y ")"]) ++ R) := fun K => by
      refine st_n (to := "span_end") (by decide +kernel) (by decide) ?_
      rw [rf_id (by decide) (by decide)]
      refine st_y (s := "]") (to := "range_end") (by decide) (by decide +kernel) (by decide) ?_
      rw [rf_id (by decide) (by decide)]
      have hn : ("range_end" : Str) ∉ ENDS := by decide
      have e : chF "range_end" dp = nxF "range_end" := if_neg hn
      refine acc_mk (c := ")") (to := "operand_end") (ok_y (by decide)) (sg_k y_ns) (no_op (by decide)) cf_y (by rw [e]; decide +kernel) ?_
      rw [show nbI "range_end" "operand_end" true = false from by decide +kernel, rf_id (by decide) (by decide), dn_c rfl, show dp + 1 - 1 = dp by omega, nb_same (fun z => hn z.2) (fun z => absurd z.1 (by decide))]
      exact a
    refine ⟨?_, ?_⟩
    · rw [pcsK_cons]
      exact st_y (s := "[") (to := "span") (by decide) (by decide +kernel) (by decide) (by rw [rf_id (by decide) (by decide)]; exact rest _)
    · rw [pcsK_cons]
      exact st_y (s := "[") (to := "span") (by decide) (by decide +kernel) (by decide) (by rw [rf_id (by decide) (by decide)]; exact rest _)
  generalize k + (pcC (.w w)).length + (pcC (.y "(")).length + (pcsC (seZ m ms)).length = K2
  generalize k + (pcC (.w w)).length + (pcC (.y "(")).length = K1
  have tl := tail K2
  generalize pcsK K2 (.y "[" :: ([.n n.natAbs] ++ [.y "]", .y ")"])) ++ R = R2 at tl ⊢
  cases ms with
  | nil => exact st_nm (to := "range_metric") h2 (by decide +kernel) (by decide) (by decide) (by rw [rf_id (by decide) (by decide)]; exact tl.2)
  | cons x r =>
    show Acc _ _ (pcsK K1 (.w m :: .y "{" :: ((inF x ++ juP (r.map mtP)) ++ [.y "}"])) ++ R2)
    rw [pcsK_cons, pcsK_cons, pcsK_app, pcsK_app]
    refine st_nm (to := "range_metric") h2 (by decide +kernel) (by decide) (by decide) ?_
    rw [rf_id (by decide) (by decide)]
    refine st_y (s := "{") (to := "first_label") (by decide) (by decide +kernel) (by decide) ?_
    rw [rf_id (by decide) (by decide)]
    show Acc _ _ (((pcsK _ (inF x) ++ pcsK _ (juP (r.map mtP))) ++ [⟨"symbol", .str "}", _⟩]) ++ _)
    rw [List.append_assoc, List.append_assoc]
    exact go_in _ (by decide) (by omega) (h3 x List.mem_cons_self) (ju_mt (ir := true) (by omega) tl.1 r _ fun y hy => h3 y (List.mem_cons_of_mem _ hy))
end
def mk1 (ml : List MkT) : List Sx := ml.map (·.1)
/-! marks that differ in their places alone -/
theorem mk_eq : ∀ {a b : List MkT}, mk1 a = mk1 b → a.length = b.length ∧ (∀ w, cntW w a = cntW w b) ∧ (a.any fun m => bigS m.1) = (b.any fun m => bigS m.1) ∧ (spnF a = none → spnF b = none) ∧ ∀ S, knL S a = none → knL S b = none
  | [], [], _ => ⟨rfl, fun _ => rfl, rfl, fun h => h, fun _ h => h⟩
  | [], _ :: _, h => by cases h
  | _ :: _, [], h => by cases h
  | (x, n) :: a, (y, m) :: b, h => by
    have h0 : x :: mk1 a = y :: mk1 b := h
    clear h
    injection h0 with e hh
    subst e
    obtain ⟨h1, h2, h3, h4, h5⟩ := mk_eq hh
    refine ⟨by rw [List.length_cons, List.length_cons, h1], fun w => ?_, ?_, ?_, fun S => ?_⟩
    · have := h2 w
      unfold cntW at this ⊢
      rw [List.countP_cons, List.countP_cons, this]
    · rw [List.any_cons, List.any_cons, h3]
    · have gen : ∀ (c : List MkT) (q : Nat), spnF ((x, q) :: c) = match x with | .lf (.ovr _ _ _ v) => if 1 ≤ v ∧ v ≤ 1000 then spnF c else some q | _ => spnF c := fun c q => by
        (rw [spnF]) <;> rfl
      rw [gen, gen]
      cases x with
      | lf e => cases e with
        | ovr w mm ms v =>
          show (if 1 ≤ v ∧ v ≤ 1000 then spnF a else some n) = none → (if 1 ≤ v ∧ v ≤ 1000 then spnF b else some m) = none
          intro z
          split at z
          · next q => rw [if_pos q]; exact h4 z
          · cases z
        | _ => exact h4
      | ag _ _ => exact h4
      | bi _ => exact h4
    · have gen : ∀ (c : List MkT) (q : Nat), knL S ((x, q) :: c) = match kiS S x with | none => none | some (.no, _) => some q | some (k, S') => knL (k :: S') c := fun c q => by
        (rw [knL]) <;> (dsimp only; cases kiS S x with
        | none => rfl
        | some r =>
          obtain ⟨kk, S'⟩ := r
          cases kk <;> rfl)
      rw [gen, gen]
      cases kiS S x with
      | none => exact fun h => h
      | some r =>
        obtain ⟨kk, S'⟩ := r
        cases kk with
        | no => exact fun z => by cases z
        | num => exact h5 _
        | vec => exact h5 _
/-! ### expressions with brackets wherever, leaves in this law's form -/
def lfP : Xp → List Pc
  | .ovr w m ms n => ovZ w m ms n
  | e => exP e
def lfM : Nat → Xp → List MkT
  | k, .ovr w m ms n => [(.lf (.ovr w m ms n), k + (pcC (.w w)).length + 1 + (pcsC (seZ m ms)).length + 1)]
  | k, e => mkE k e
def fst1 : Xp → Prop
  | .ovr _ _ ms _ => ∀ x r, ms = x :: r → x.2.2 = true
  | _ => True
theorem lfM_st : ∀ (e : Xp) (k : Nat), (lfM k e).map (·.1) = stF e := fun e k => by
  cases e with
  | ovr w m ms n => rfl
  | num n => rfl
  | lat m ms => rfl
  | agg w ns e => exact mkE_st _ k
  | bin s l r => exact mkE_st _ k
inductive Sy where
  | lf (e : Xp)
  | agg (w : Str) (ns : List Str) (e : Sy)
  | bin (s : Str) (l r : Sy)
  | par (b : Bool) (e : Sy)
def erY : Sy → Xp
  | .lf e => e
  | .agg w ns e => .agg w ns (erY e)
  | .bin s l r => .bin s (erY l) (erY r)
  | .par _ e => erY e
def paP (b : Bool) (p : List Pc) : List Pc := if b = true then .y "(" :: .b :: (p ++ [.b, .y ")"]) else .y "(" :: (p ++ [.y ")"])
def syP : Sy → List Pc
  | .lf e => lfP e
  | .agg w ns e => hdP w ns ++ (.y "(" :: (syP e ++ [.y ")"]))
  | .bin s l r => syP l ++ (.b :: sgP s :: .b :: syP r)
  | .par b e => paP b (syP e)
def stY : Sy → Int
  | .bin s _ _ => stS s
  | _ => 6
def SyO : Sy → Prop
  | .lf e => leafX e ∧ ExO e ∧ fst1 e
  | .agg w ns e => w ∈ AGs ∧ (∀ x ∈ ns, WdO x) ∧ SyO e
  | .bin s l r => s ∈ SGs ∧ SyO l ∧ SyO r ∧ stS s ≤ stY l ∧ stS s < stY r
  | .par _ e => SyO e
def dpY : Sy → Nat
  | .lf _ => 2
  | .agg _ _ e => dpY e + 1
  | .bin _ l r => max (dpY l) (dpY r)
  | .par _ e => dpY e + 1
theorem dpY_2 : ∀ e : Sy, 2 ≤ dpY e
  | .lf _ => Nat.le_refl _
  | .agg _ _ e => Nat.le_succ_of_le (dpY_2 e)
  | .bin _ l r => by
    have := dpY_2 l
    show 2 ≤ max (dpY l) (dpY r); omega
  | .par _ e => Nat.le_succ_of_le (dpY_2 e)
def mkY : Nat → Sy → List MkT
  | k, .lf e => lfM k e
  | k, .agg w ns e => mkY (k + (pcsC (hdP w ns)).length + 1) e ++ [(.ag w ns, k)]
  | k, .bin s l r => mkY k l ++ (mkY (k + (pcsC (syP l)).length + 1 + (pcC (sgP s)).length + 1) r ++ [(.bi s, k + (pcsC (syP l)).length + 1)])
  | k, .par b e => mkY (k + (if b = true then 2 else 1)) e
theorem mkY_st : ∀ (e : Sy) (k : Nat), (mkY k e).map (·.1) = stF (erY e)
  | .lf e, k => lfM_st e k
  | .agg w ns e, k => by
    show (mkY (k + (pcsC (hdP w ns)).length + 1) e ++ [((.ag w ns, k) : MkT)]).map (fun m : MkT => m.1) = stF (erY e) ++ [.ag w ns]
    rw [List.map_append, mkY_st e]; rfl
  | .bin s l r, k => by
    show (mkY k l ++ (mkY (k + (pcsC (syP l)).length + 1 + (pcC (sgP s)).length + 1) r ++ [((.bi s, k + (pcsC (syP l)).length + 1) : MkT)])).map (fun m : MkT => m.1) = stF (erY l) ++ stF (erY r) ++ [.bi s]
    rw [List.map_append, List.map_append, mkY_st l, mkY_st r, List.append_assoc]; rfl
  | .par b e, k => mkY_st e _
/-! the pieces are sound -/
theorem leaf_hd {e : Xp} {R : List Nat} (h : ExO e) : (pcsC (lfP e) ++ R).head? ≠ some 61 := by
  cases e with
  | ovr w m ms n => exact ovZ_hd h
  | num n => exact ex_hd (.num n) h
  | lat m ms => exact ex_hd (.lat m ms) h
  | agg w ns e => exact ex_hd (.agg w ns e) h
  | bin s l r => exact ex_hd (.bin s l r) h
theorem leaf_O {e : Xp} {R : List Nat} (h : ExO e) (hR : hdB R) : PcsO (lfP e) R := by
  cases e with
  | ovr w m ms n => exact ovZ_O h hR
  | num n => exact ex_O (.num n) h hR
  | lat m ms => exact ex_O (.lat m ms) h hR
  | agg w ns e => exact ex_O (.agg w ns e) h hR
  | bin s l r => exact ex_O (.bin s l r) h hR
theorem pa_hd {b : Bool} {p : List Pc} {R : List Nat} : (pcsC (paP b p) ++ R).head? ≠ some 61 := by
  unfold paP
  split <;> exact ne61 (hd_op (l := _))
theorem sy_hd : ∀ (e : Sy) {R : List Nat}, SyO e → (pcsC (syP e) ++ R).head? ≠ some 61
  | .lf e, R, h => leaf_hd h.2.1
  | .agg w ns e, R, h => by
    have e1 : ∃ l, pcsC (hdP w ns) = w.cps.toList ++ l := by
      unfold hdP
      split <;> exact ⟨_, rfl⟩
    obtain ⟨l, e1⟩ := e1
    show (pcsC (hdP w ns ++ _) ++ R).head? ≠ some 61
    rw [pcsC_app, e1, List.append_assoc, List.append_assoc]
    exact wf_hd (ag_wd h.1)
  | .bin s l r, R, h => by
    show (pcsC (syP l ++ _) ++ R).head? ≠ some 61
    rw [pcsC_app, List.append_assoc]
    exact sy_hd l h.2.1
  | .par b e, R, h => pa_hd
theorem sy_O : ∀ (e : Sy) {R : List Nat}, SyO e → hdB R → PcsO (syP e) R
  | .lf e, R, h, hR => leaf_O h.2.1 hR
  | .agg w ns e, R, h, hR => by
    obtain ⟨h1, h2, h3⟩ := h
    refine pcsO_app (hd_O h1 h2 (hd_op (l := _))) ⟨⟨by decide, fun _ => ?_⟩, pcsO_app (sy_O e h3 (hd_cl (l := _))) ⟨sy1 (by decide) hR, trivial⟩⟩
    rw [pcsC_app, List.append_assoc]
    exact sy_hd e h3
  | .bin s l r, R, h, hR => by
    obtain ⟨h1, h2, h3, _⟩ := h
    exact pcsO_app (sy_O l h2 (hd_sp (l := _))) ⟨trivial, sg_O h1, trivial, sy_O r h3 hR⟩
  | .par b e, R, h, hR => by
    show PcsO (paP b (syP e)) R
    unfold paP
    split
    · exact ⟨⟨by decide, fun _ => ne61 (hd_sp (l := _))⟩, trivial, pcsO_app (sy_O e h (hd_sp (l := _))) ⟨trivial, sy1 (by decide) hR, trivial⟩⟩
    · refine ⟨⟨by decide, fun _ => ?_⟩, pcsO_app (sy_O e h (hd_cl (l := _))) ⟨sy1 (by decide) hR, trivial⟩⟩
      rw [pcsC_app, List.append_assoc]
      exact sy_hd e h
/-! the walk lets the tokens pass -/
theorem go_sy : ∀ (e : Sy) {dp : Int} {R : List Tkn} (k : Nat), SyO e → 0 ≤ dp → dp + dpY e ≤ 40 → (∀ st ∈ ENDS, Acc (st, dp, false) dp R) → Acc ("operand", dp, false) dp (pcsK k (syP e) ++ R)
  | .lf (.num v), dp, R, k, h, h0, hd, a => go_nu k (a _ (by decide))
  | .lf (.lat m ms), dp, R, k, h, h0, hd, a => go_se k (by have : dpY (.lf (.lat m ms)) = 2 := rfl; omega) h.2.1.1 h.2.1.2 a
  | .lf (.ovr w m ms n), dp, R, k, h, h0, hd, a => go_ovZ k (by have : dpY (.lf (.ovr w m ms n)) = 2 := rfl; omega) h.2.1 (a _ (by decide))
  | .lf (.agg _ _ _), dp, R, k, h, h0, hd, a => h.1.elim
  | .lf (.bin _ _ _), dp, R, k, h, h0, hd, a => h.1.elim
  | .agg w ns e, dp, R, k, h, h0, hd, a => by
    obtain ⟨h1, h2, h3⟩ := h
    have ho : dpY (.agg w ns e) = dpY e + 1 := rfl
    have := dpY_2 e
    refine go_agg k h0 (by omega) h1 h2 fun K c hc => ?_
    refine go_sy e K h3 (by omega) (by omega) fun st hs => ?_
    rw [hc]
    exact go_cl _ hs h0 (a _ (by decide))
  | .bin s l r, dp, R, k, h, h0, hd, a => by
    obtain ⟨h1, h2, h3, _⟩ := h
    have ho : dpY (.bin s l r) = max (dpY l) (dpY r) := rfl
    show Acc _ _ (pcsK k (syP l ++ (.b :: sgP s :: .b :: syP r)) ++ R)
    rw [pcsK_app, List.append_assoc]
    refine go_sy l _ h2 h0 (by omega) fun st hs => ?_
    rw [bsb_cat]
    exact go_sg _ hs h1 (go_sy r _ h3 h0 (by omega) a)
  | .par b e, dp, R, k, h, h0, hd, a => by
    have ho : dpY (.par b e) = dpY e + 1 := rfl
    have := dpY_2 e
    show Acc _ _ (pcsK k (paP b (syP e)) ++ R)
    unfold paP
    cases b with
    | true =>
      rw [if_pos rfl, pcsK_cons, pcsK_cons, pcsK_app]
      refine go_op k (by omega) ?_
      show Acc _ _ ((pcsK _ (syP e) ++ [⟨"symbol", .str ")", _⟩]) ++ R)
      rw [List.append_assoc]
      exact go_sy e _ h (by omega) (by omega) fun st hs => go_cl _ hs h0 (a _ (by decide))
    | false =>
      rw [if_neg (by decide), pcsK_cons, pcsK_app]
      refine go_op k (by omega) ?_
      show Acc _ _ ((pcsK _ (syP e) ++ [⟨"symbol", .str ")", _⟩]) ++ R)
      rw [List.append_assoc]
      exact go_sy e _ h (by omega) (by omega) fun st hs => go_cl _ hs h0 (a _ (by decide))
/-! the reader reads them -/
theorem stY_rg {e : Sy} (h : SyO e) : 1 ≤ stY e ∧ stY e ≤ 6 := by
  cases e with
  | bin s l r => have := st_rg s h.1; exact ⟨this.1, by show stS s ≤ 6; omega⟩
  | _ => exact ⟨by show (1 : Int) ≤ 6; omega, Int.le_refl _⟩
theorem rd_pab {E0 : RdP} {ml : List MkT} {p : List Pc} {R : List Tkn} (k : Nat) (h : ∀ c : Tkn, c.v = .str ")" → E0 1 (pcsK (k + 2) p ++ c :: R) ml (c :: R)) : RdOb E0 (pcsK k (.y "(" :: .b :: (p ++ [.b, .y ")"])) ++ R) ml R := by
  rw [pcsK_cons, pcsK_cons, pcsK_app]
  show RdOb E0 (⟨"symbol", .str "(", k⟩ :: ((pcsK _ p ++ [⟨"symbol", .str ")", _⟩]) ++ R)) _ R
  rw [List.append_assoc]
  exact .par _ _ ml ⟨"symbol", .str ")", _⟩ R sy_nn rfl (h _ rfl)
theorem rd_sy : ∀ (e : Sy) (d : Nat), SyO e → dpY e ≤ d + 2 → ∀ (u : Nat) (w : Int) (k : Nat) (R r' : List Tkn) (m2 : List MkT), 1 ≤ w → w ≤ stY e → 7 ≤ w + (u + 1) → PkR R → hdLe (stY e) R → RdW (EU (ED d) u) w R m2 r' → RdEx (ED d) (EU (ED d) u) w (pcsK k (syP e) ++ R) (mkY k e ++ m2) r'
  | .lf (.num v), d, h, hd, u, w, k, R, r', m2, _, _, _, hR, _, hw => ⟨_, R, m2, rd_num k, hw, rfl⟩
  | .lf (.lat m ms), d, h, hd, u, w, k, R, r', m2, _, _, _, hR, _, hw => ⟨_, R, m2, rd_lat k h.2.1.1 h.2.1.2 hR, hw, rfl⟩
  | .lf (.ovr wo m ms n), d, h, hd, u, w, k, R, r', m2, _, _, _, hR, _, hw => ⟨_, R, m2, rd_ovZ k h.2.1 h.2.2, hw, rfl⟩
  | .lf (.agg _ _ _), d, h, hd, u, w, k, R, r', m2, _, _, _, hR, _, hw => h.1.elim
  | .lf (.bin _ _ _), d, h, hd, u, w, k, R, r', m2, _, _, _, hR, _, hw => h.1.elim
  | .agg wo ns e, d, h, hd, u, w, k, R, r', m2, _, _, _, hR, _, hw => by
    obtain ⟨h1, h2, h3⟩ := h
    have hd : dpY e + 1 ≤ d + 2 := hd
    have := dpY_2 e
    obtain ⟨d, rfl⟩ : ∃ d', d = d' + 1 := ⟨d - 1, by omega⟩
    refine ⟨_, R, m2, rd_agg k h1 h2 fun c hc => ?_, hw, rfl⟩
    have rg := stY_rg h3
    have := rd_sy e d h3 (by omega) 5 1 (k + (pcsC (hdP wo ns)).length + 1) (c :: R) (c :: R) [] (Int.le_refl _) rg.1 (by omega) (PkR_cl hc) (hdLe_cl hc) (stop_R (PkR_cl hc) (Int.le_refl _) (hdLe_cl hc))
    rw [List.append_nil] at this
    exact this
  | .par b e, d, h, hd, u, w, k, R, r', m2, _, _, _, hR, _, hw => by
    have hd : dpY e + 1 ≤ d + 2 := hd
    have := dpY_2 e
    obtain ⟨d, rfl⟩ : ∃ d', d = d' + 1 := ⟨d - 1, by omega⟩
    have h : SyO e := h
    have rg := stY_rg h
    have inner := fun (K : Nat) (c : Tkn) (hc : c.v = .str ")") => rd_sy e d h (by omega) 5 1 K (c :: R) (c :: R) [] (Int.le_refl _) rg.1 (by omega) (PkR_cl hc) (hdLe_cl hc) (stop_R (PkR_cl hc) (Int.le_refl _) (hdLe_cl hc))
    show RdEx _ _ w (pcsK k (paP b (syP e)) ++ R) (mkY (k + (if b = true then 2 else 1)) e ++ m2) r'
    unfold paP
    cases b with
    | true =>
      rw [if_pos rfl, if_pos rfl]
      refine ⟨_, R, m2, rd_pab k fun c hc => ?_, hw, rfl⟩
      have := inner (k + 2) c hc
      rw [List.append_nil] at this
      exact this
    | false =>
      rw [if_neg (by decide), if_neg (by decide)]
      refine ⟨_, R, m2, rd_par k fun c hc => ?_, hw, rfl⟩
      have := inner (k + 1) c hc
      rw [List.append_nil] at this
      exact this
  | .bin s l r, d, h, hd, u, w, k, R, r', m2, hw1, hwe, hu, hR, hq, hw => by
    obtain ⟨h1, h2, h3, hl, hr⟩ := h
    have hd : max (dpY l) (dpY r) ≤ d + 2 := hd
    have hwe : w ≤ stS s := hwe
    have hq : hdLe (stS s) R := hq
    have sr := st_rg s h1
    have rgg := stY_rg h3
    obtain ⟨u, rfl⟩ : ∃ u', u = u' + 1 := ⟨u - 1, by omega⟩
    show RdEx _ _ w (pcsK k (syP l ++ (.b :: sgP s :: .b :: syP r)) ++ R) ((mkY k l ++ (mkY (k + (pcsC (syP l)).length + 1 + (pcC (sgP s)).length + 1) r ++ [(.bi s, k + (pcsC (syP l)).length + 1)])) ++ m2) r'
    rw [pcsK_app]
    generalize hkl : k + (pcsC (syP l)).length = K1
    obtain ⟨t, ht, tv, tn⟩ := sg_K (s := s) (K1 + 1)
    have etail : pcsK K1 (.b :: sgP s :: .b :: syP r) = t :: pcsK (K1 + 1 + (pcC (sgP s)).length + 1) (syP r) := by
      rw [pcsK_cons, pcsK_cons, pcsK_cons]
      show [] ++ (pcK (K1 + 1) (sgP s) ++ ([] ++ pcsK (K1 + 1 + (pcC (sgP s)).length + 1) _)) = _
      rw [ht]; rfl
    rw [etail, List.append_assoc]
    generalize hkr : K1 + 1 + (pcC (sgP s)).length + 1 = K2
    have right : EU (ED d) (u + 1) (stS s + 1) (pcsK K2 (syP r) ++ R) (mkY K2 r) R := by
      have hs : hdLe (stS s + 1 - 1) R := by rw [show stS s + 1 - 1 = stS s by omega]; exact hq
      have := rd_sy r d h3 (by omega) u (stS s + 1) K2 R R [] (by omega) (by omega) (by omega) hR (hq.mono (by omega)) (stop_R hR (by omega) hs)
      rw [List.append_nil] at this
      exact this
    have more : RdW (EU (ED d) (u + 1)) w (t :: (pcsK K2 (syP r) ++ R)) (mkY K2 r ++ (.bi s, t.n) :: m2) r' := .more t s _ _ R m2 r' tv h1 hwe right hw
    rw [tn] at more
    have asc : ∀ (A B : List MkT) (x : MkT), (A ++ (B ++ [x])) ++ m2 = A ++ (B ++ x :: m2) := fun A B x => by simp [List.append_assoc]
    rw [asc]
    exact rd_sy l d h2 (by omega) (u + 1) w k _ r' _ hw1 (by omega) hu ⟨s, pk_s tv, .inl h1⟩ (fun t' R' sg e v hs => by
        cases e
        rw [tv] at v
        injection v with v
        rw [← v]; omega) more
/-- the whole text's tokens -/
theorem rd_sya {e : Sy} (h : SyO e) (h8 : dpY e ≤ 22) : ED 21 1 (pcsK 0 (syP e)) (mkY 0 e) [] := by
  have rg := stY_rg h
  have := rd_sy e 20 h h8 5 1 0 [] [] [] (Int.le_refl _) rg.1 (by omega) ⟨"", rfl, .inr (.inl rfl)⟩ (fun t R' sg e => by cases e) (stop_R ⟨"", rfl, .inr (.inl rfl)⟩ (Int.le_refl _) fun t R' sg e => by cases e)
  rw [List.append_nil, List.append_nil] at this
  exact this
/-! ### the depth, by the signs of the text -/
def cdC : Int → Nat → List Nat → Option Nat
  | _, _, [] => none
  | d, k, c :: r => if c = 40 then (if d = 20 then some k else cdC (d + 1) (k + 1) r) else if c = 41 then cdC (d - 1) (k + 1) r else cdC d (k + 1) r
theorem cdC_skip : ∀ (l : List Nat) (d : Int) (k : Nat) (r : List Nat), (∀ c ∈ l, c ≠ 40 ∧ c ≠ 41) → cdC d k (l ++ r) = cdC d (k + l.length) r
  | [], d, k, r, _ => rfl
  | c :: l, d, k, r, h => by
    have hc := h c List.mem_cons_self
    rw [List.cons_append, cdC, if_neg hc.1, if_neg hc.2, cdC_skip l d (k + 1) r fun x hx => h x (List.mem_cons_of_mem _ hx), List.length_cons]
    congr 1
    omega
theorem ch_40 : ∀ c ∈ CHc.cps.toList, c ≠ 40 ∧ c ≠ 41 := by decide +kernel
theorem sy_40 : ∀ s ∈ SYc, s ≠ "(" → s ≠ ")" → ∀ c ∈ s.cps.toList, c ≠ 40 ∧ c ≠ 41 := by decide +kernel
theorem cdF_s {d : Int} {t : Tkn} {r : List Tkn} {s : Str} (h : t.v = .str s) (n1 : s ≠ "(") (n2 : s ≠ ")") : cdF d (t :: r) = cdF d r := by
  have e : txV t.v = some s := by rw [h]; rfl
  rw [cdF, e, if_neg (fun z => by injection z with z; exact n1 z), if_neg (fun z => by injection z with z; exact n2 z)]
theorem cdF_i {d i : Int} {t : Tkn} {r : List Tkn} (h : t.v = .int i) : cdF d (t :: r) = cdF d r := by
  have e : txV t.v = none := by rw [h]; rfl
  rw [cdF, e, if_neg (fun z => by cases z), if_neg (fun z => by cases z)]
theorem cdF_o {d : Int} {t : Tkn} {r : List Tkn} (h : t.v = .str "(") : cdF d (t :: r) = if d = 20 then some t.n else cdF (d + 1) r := by
  have e : txV t.v = some "(" := by rw [h]; rfl
  rw [cdF, e, if_pos rfl]
theorem cdF_c {d : Int} {t : Tkn} {r : List Tkn} (h : t.v = .str ")") : cdF d (t :: r) = cdF (d - 1) r := by
  have e : txV t.v = some ")" := by rw [h]; rfl
  rw [cdF, e, if_neg (by decide), if_pos rfl]
theorem cd_pcs : ∀ (p : List Pc) (d : Int) (k : Nat) (R : List Nat), PcsO p R → cdF d (pcsK k p) = cdC d k (pcsC p)
  | [], _, _, _, _ => rfl
  | x :: r, d, k, R, h => by
    have ih := fun d k => cd_pcs r d k R h.2
    rw [pcsK_cons, pcsC_cons]
    cases x with
    | b =>
      show cdF d (pcsK (k + 1) r) = cdC d k ([32] ++ pcsC r)
      rw [cdC_skip [32] d k _ (by decide), ih]; rfl
    | w s =>
      have hs : WdO s := h.1.1
      show cdF d (⟨"word", .str s, k⟩ :: pcsK _ r) = cdC d k (s.cps.toList ++ pcsC r)
      rw [cdF_s rfl (wd_br hs).1 (wd_br hs).2, cdC_skip _ _ _ _ fun c hc => ch_40 c (hs.2.1 c hc), ih]; rfl
    | n m =>
      show cdF d (⟨"number", .int (m : Nat), k⟩ :: pcsK _ r) = cdC d k ((tS (m : Nat)).cps.toList ++ pcsC r)
      rw [cdF_i rfl, cdC_skip _ _ _ _ fun c hc => ch_40 c ((dg_facts c ((ts_dig m).1 c hc)).2.1), ih]; rfl
    | q s =>
      have hs : StO s := h.1
      show cdF d (⟨"string", .str s, k⟩ :: pcsK _ r) = cdC d k (34 :: (s.cps.toList ++ [34]) ++ pcsC r)
      rw [cdF_s rfl (sto_ne hs).1 (sto_ne hs).2, cdC_skip _ _ _ _ fun c hc => ?_, ih]
      · rfl
      · rcases List.mem_cons.mp hc with rfl | hc
        · decide
        · rcases List.mem_append.mp hc with hc | hc
          · exact ch_40 c (hs.1 c hc)
          · rw [List.mem_singleton.mp hc]; decide
    | y s =>
      have hs : s ∈ SYc := h.1.1
      by_cases h1 : s = "("
      · subst h1
        show cdF d (⟨"symbol", .str "(", k⟩ :: pcsK (k + 1) r) = cdC d k (40 :: pcsC r)
        rw [cdF_o rfl, cdC, if_pos rfl, ih]
      · by_cases h2 : s = ")"
        · subst h2
          show cdF d (⟨"symbol", .str ")", k⟩ :: pcsK (k + 1) r) = cdC d k (41 :: pcsC r)
          rw [cdF_c rfl, cdC, if_neg (by decide), if_pos rfl, ih]
        · show cdF d (⟨"symbol", .str s, k⟩ :: pcsK _ r) = cdC d k (s.cps.toList ++ pcsC r)
          rw [cdF_s rfl h1 h2, cdC_skip _ _ _ _ (sy_40 s hs h1 h2), ih]; rfl
/-- how many brackets stand open at the first leaf -/
def opY : Sy → Nat
  | .lf _ => 0
  | .agg _ _ e => opY e + 1
  | .bin _ l _ => opY l
  | .par _ e => opY e + 1
theorem cdF_ju {d : Int} {c : Tkn} {R : List Tkn} (hc : c.v = .str ")") : ∀ (ns : List Str) (k : Nat), (∀ x ∈ ns, WdO x) → cdF d (pcsK k (juP (ns.map fun n => [.w n])) ++ c :: R) = cdF (d - 1) R
  | [], k, _ => cdF_c hc
  | n :: r, k, h => by
    have hn := h n List.mem_cons_self
    show cdF d (pcsK k (.y "," :: .b :: (.w n :: juP (r.map fun n => [.w n]))) ++ c :: R) = _
    rw [pcsK_cons, pcsK_cons, pcsK_cons]
    show cdF d (⟨"symbol", .str ",", _⟩ :: ⟨"word", .str n, _⟩ :: (pcsK _ (juP (r.map fun n => [.w n])) ++ c :: R)) = _
    rw [cdF_s rfl (by decide) (by decide), cdF_s rfl (wd_br hn).1 (wd_br hn).2, cdF_ju hc r _ fun x hx => h x (List.mem_cons_of_mem _ hx)]
theorem cdF_hd {w : Str} {ns : List Str} {d : Int} {R : List Tkn} (k : Nat) (hw : w ∈ AGs) (hn : ∀ x ∈ ns, WdO x) (h : cdF d (pcsK k (hdP w ns) ++ R) = none) : cdF d R = none := by
  have hw := ag_wd hw
  unfold hdP at h
  split at h
  · next hl =>
    rw [pcsK_cons, pcsK_cons, pcsK_cons, pcsK_cons, pcsK_cons, pcsK_app] at h
    have h : cdF d (⟨"word", .str w, _⟩ :: ⟨"word", .str "by", _⟩ :: ⟨"symbol", .str "(", _⟩ :: ((pcsK _ (jnP (ns.map fun n => [.w n])) ++ [⟨"symbol", .str ")", _⟩]) ++ R)) = none := h
    rw [cdF_s rfl (wd_br hw).1 (wd_br hw).2, cdF_s rfl (by decide) (by decide), cdF_o rfl] at h
    split at h
    · cases h
    · rw [List.append_assoc] at h
      cases ns with
      | nil => exact absurd hl (by decide)
      | cons n r =>
        have hn1 := hn n List.mem_cons_self
        have h : cdF (d + 1) (⟨"word", .str n, _⟩ :: (pcsK _ (juP (r.map fun n => [.w n])) ++ ⟨"symbol", .str ")", _⟩ :: R)) = none := h
        rw [cdF_s rfl (wd_br hn1).1 (wd_br hn1).2, cdF_ju rfl r _ fun x hx => hn x (List.mem_cons_of_mem _ hx)] at h
        rw [show d + 1 - 1 = d by omega] at h
        exact h
  · have h : cdF d (⟨"word", .str w, _⟩ :: R) = none := h
    rw [cdF_s rfl (wd_br hw).1 (wd_br hw).2] at h
    exact h
theorem cd_op : ∀ (e : Sy) (d : Int) (k : Nat) (R : List Tkn), SyO e → d ≤ 20 → cdF d (pcsK k (syP e) ++ R) = none → d + opY e ≤ 20
  | .lf e, d, k, R, h, hd, hc => by show d + ((0 : Nat) : Int) ≤ 20; omega
  | .agg w ns e, d, k, R, h, hd, hc => by
    have hc : cdF d (pcsK k (hdP w ns ++ (.y "(" :: (syP e ++ [.y ")"]))) ++ R) = none := hc
    rw [pcsK_app, List.append_assoc] at hc
    have hc := cdF_hd k h.1 h.2.1 hc
    rw [pcsK_cons, pcsK_app] at hc
    have hc : cdF d (⟨"symbol", .str "(", _⟩ :: ((pcsK _ (syP e) ++ _) ++ R)) = none := hc
    rw [cdF_o rfl] at hc
    split at hc
    · cases hc
    · next hne =>
      rw [List.append_assoc] at hc
      have := cd_op e (d + 1) _ _ h.2.2 (by omega) hc
      show d + ((opY e + 1 : Nat) : Int) ≤ 20
      omega
  | .bin s l r, d, k, R, h, hd, hc => by
    have hc : cdF d (pcsK k (syP l ++ (.b :: sgP s :: .b :: syP r)) ++ R) = none := hc
    rw [pcsK_app, List.append_assoc] at hc
    exact cd_op l d _ _ h.2.1 hd hc
  | .par b e, d, k, R, h, hd, hc => by
    have hc : cdF d (pcsK k (paP b (syP e)) ++ R) = none := hc
    have fin : ∀ (K : Nat) (R' : List Tkn), cdF d (⟨"symbol", .str "(", k⟩ :: (pcsK K (syP e) ++ R')) = none → d + ((opY e + 1 : Nat) : Int) ≤ 20 := fun K R' hc => by
      rw [cdF_o rfl] at hc
      split at hc
      · cases hc
      · next hne =>
        have := cd_op e (d + 1) _ _ h (by omega) hc
        omega
    unfold paP at hc
    cases b with
    | true =>
      rw [if_pos rfl, pcsK_cons, pcsK_cons, pcsK_app] at hc
      have hc : cdF d (⟨"symbol", .str "(", k⟩ :: ((pcsK _ (syP e) ++ _) ++ R)) = none := hc
      rw [List.append_assoc] at hc
      exact fin _ _ hc
    | false =>
      rw [if_neg (by decide), pcsK_cons, pcsK_app] at hc
      have hc : cdF d (⟨"symbol", .str "(", k⟩ :: ((pcsK _ (syP e) ++ _) ++ R)) = none := hc
      rw [List.append_assoc] at hc
      exact fin _ _ hc
/-- what parse answers at a text with brackets wherever -/
theorem par_z {C : Addr} {y : Sy} {t : Str} (h : SyO y) (hd : dpY y ≤ 40) (hr : dpY y ≤ opY y + 2) (ho : opsN (erY y) ≤ 100) (ht : t.cps.toList = pcsC (syP y)) (hl : t.length ≤ 300) : prO C t (match cdC 0 0 t.cps.toList with | some n => exc2 C "deep" n | none => outK C (mkY 0 y) (erY y) t.length) := by
  have o := sy_O y h hd_nil
  have sc := scan_pcs ht o hl
  have ac := go_sy y (dp := 0) (R := []) 0 h (by omega) (by omega) fun st hs => go_nil hs
  rw [List.append_nil] at ac
  obtain ⟨a1, a2, a4⟩ := acc_to _ _ _ ac
  have nd := (nod_le (erY y)).2
  have ll : (pcsK 0 (syP y)).length ≤ 20000 := by
    have := @scan_len3 t
    rw [sc, List.length_map] at this
    omega
  have ec := cd_pcs (syP y) 0 0 [] o
  rw [ht, ← ec]
  refine .inr ⟨pcsK 0 (syP y), ct_of sc a1 a2, a4, ll, ?_⟩
  cases hc : cdF 0 (pcsK 0 (syP y)) with
  | some n => exact .inl ⟨n, rfl, rfl⟩
  | none =>
    have hc2 := hc
    rw [← List.append_nil (pcsK 0 (syP y))] at hc2
    have hop := cd_op y 0 0 [] h (by decide) hc2
    exact .inr ⟨rfl, mkY 0 y, [], erY y, rd_sya h (by omega), mkY_st y 0, by omega, rfl⟩
/-- .. at a text that is too long -/
theorem par_long {C : Addr} {t : Str} (hl : 300 < t.length) : prO C t (exc2 C "long" 300) := by
  refine .inl ⟨_, ?_, rfl⟩
  have sc : scanF t = (([] : List PyData), (some (("long" : Str), 300) : Flt)) := by
    unfold scanF
    rw [if_pos (by omega)]
  unfold ctO
  rw [sc]
  rfl
/-! ### the law's trees -/
def parN : Nat → Sy → Sy
  | 0, y => y
  | n + 1, y => .par false (parN n y)
def andN : Nat → Sy → Sy
  | 0, y => y
  | n + 1, y => .bin "and" (andN n y) (.lf (.lat "b" []))
def addN : Nat → Sy → Sy
  | 0, y => y
  | n + 1, y => .bin "+" (addN n y) (.lf (.num 1))
def msX (m v : Nat) : List Mt := if m = 0 then [] else ("l", List.replicate v "v", true) :: List.replicate (m - 1) ("l", ["v"], true)
def lfX (m v : Nat) (sp : Int) : Xp := .ovr "increase" "a" (msX m v) sp
def nsX (n : Nat) : List Str := List.replicate n "n"
def treeY (dp s q m v nm : Nat) (sp : Int) : Sy :=
  if 0 < nm then addN q (.agg "sum" (nsX nm) (andN (s - 1) (parN dp (.lf (lfX m v sp)))))
  else if s = 1 then addN q (parN dp (.lf (lfX m v sp)))
  else .bin "and" (andN (s - 2) (parN dp (.lf (lfX m v sp)))) (addN q (.lf (.lat "b" [])))
theorem wd_fix : ∀ s ∈ (["increase", "a", "b", "l", "n", "sum"] : List Str), WdO s ∧ s ≠ "metric" := by
  have a : ∀ s ∈ (["increase", "a", "b", "l", "n", "sum"] : List Str), ((s.cps.toList ≠ [] ∧ s.cps.toList.headD 0 ∈ LEc.cps.toList) ∧ (∀ x ∈ s.cps.toList, x ∈ CHc.cps.toList) ∧ s.length ≤ 20) ∧ s ≠ "metric" := by decide +kernel
  intro s hs
  obtain ⟨⟨⟨h1, h2⟩, h3, h4⟩, h5⟩ := a s hs
  obtain ⟨c, r, e⟩ := List.exists_cons_of_ne_nil h1
  rw [e] at h2
  exact ⟨⟨⟨c, r, e, h2⟩, h3, h4⟩, h5⟩
theorem st_v : StO "v" := by
  have a : (∀ x ∈ ("v" : Str).cps.toList, x ∈ CHc.cps.toList) ∧ ("v" : Str).length ≤ 20 := by decide +kernel
  exact a
theorem msX_O {m v : Nat} (hv : 0 < v) : ∀ x ∈ msX m v, MtO x := fun x hx => by
  unfold msX at hx
  split at hx
  · cases hx
  · rcases List.mem_cons.mp hx with rfl | hx
    · exact ⟨wd_fix "l" (by decide), fun y hy => by rw [List.eq_of_mem_replicate hy]; exact st_v, fun e => by
        have : (List.replicate v ("v" : Str)).length = 0 := by rw [show List.replicate v ("v" : Str) = [] from e]; rfl
        rw [List.length_replicate] at this; omega⟩
    · rw [List.eq_of_mem_replicate hx]
      exact ⟨wd_fix "l" (by decide), fun y hy => by rw [List.mem_singleton.mp hy]; exact st_v, fun e => by cases e⟩
theorem lf_O {m v : Nat} {sp : Int} (hv : 0 < v) (h0 : 0 ≤ sp) (h1 : sp ≤ 999999999999999) : SyO (.lf (lfX m v sp)) :=
  ⟨trivial, ⟨by decide, (wd_fix "a" (by decide)).1, msX_O hv, h0, h1⟩, fun x r e => by
    unfold msX at e
    split at e
    · cases e
    · injection e with e _; rw [← e]⟩
theorem b_O : SyO (.lf (.lat "b" [])) := ⟨trivial, ⟨(wd_fix "b" (by decide)).1, fun x hx => by cases hx⟩, trivial⟩
theorem one_O : SyO (.lf (.num 1)) := ⟨trivial, by show (1 : Int).natAbs ≤ 999999999999999; decide, trivial⟩
theorem parN_O {y : Sy} (h : SyO y) (h6 : stY y = 6) : ∀ n, SyO (parN n y) ∧ stY (parN n y) = 6
  | 0 => ⟨h, h6⟩
  | n + 1 => ⟨(parN_O h h6 n).1, rfl⟩
theorem st_an : stS "and" = 2 ∧ stS "+" = 4 := by decide +kernel
theorem andN_O {y : Sy} (h : SyO y) (h6 : stY y = 6) : ∀ n, SyO (andN n y) ∧ 2 ≤ stY (andN n y)
  | 0 => ⟨h, by show 2 ≤ stY y; omega⟩
  | n + 1 => by
    obtain ⟨a, b⟩ := andN_O h h6 n
    refine ⟨⟨by decide, a, b_O, by rw [st_an.1]; exact b, by rw [st_an.1]; decide⟩, ?_⟩
    show 2 ≤ stS "and"
    rw [st_an.1]; decide
theorem addN_O {y : Sy} (h : SyO y) (h6 : stY y = 6) : ∀ n, SyO (addN n y) ∧ 4 ≤ stY (addN n y)
  | 0 => ⟨h, by show 4 ≤ stY y; omega⟩
  | n + 1 => by
    obtain ⟨a, b⟩ := addN_O h h6 n
    refine ⟨⟨by decide, a, one_O, by rw [st_an.2]; exact b, by rw [st_an.2]; decide⟩, ?_⟩
    show 4 ≤ stS "+"
    rw [st_an.2]; decide
theorem tree_O {dp s q m v nm : Nat} {sp : Int} (hv : 0 < v) (h0 : 0 ≤ sp) (h1 : sp ≤ 999999999999999) : SyO (treeY dp s q m v nm sp) := by
  obtain ⟨u, u6⟩ := parN_O (lf_O (m := m) hv h0 h1) rfl dp
  unfold treeY
  split
  · exact (addN_O (y := .agg "sum" (nsX nm) _) ⟨by decide, fun x hx => by rw [List.eq_of_mem_replicate hx]; exact (wd_fix "n" (by decide)).1, (andN_O u u6 _).1⟩ rfl q).1
  · split
    · exact (addN_O u u6 q).1
    · obtain ⟨a, b⟩ := andN_O u u6 (s - 2)
      obtain ⟨c, d⟩ := addN_O b_O rfl q
      exact ⟨by decide, a, c, by rw [st_an.1]; exact b, by rw [st_an.1]; omega⟩
theorem parN_dp (y : Sy) : ∀ n, dpY (parN n y) = dpY y + n ∧ opY (parN n y) = opY y + n
  | 0 => ⟨rfl, rfl⟩
  | n + 1 => by
    obtain ⟨a, b⟩ := parN_dp y n
    exact ⟨by show dpY (parN n y) + 1 = _; omega, by show opY (parN n y) + 1 = _; omega⟩
theorem andN_dp (y : Sy) : ∀ n, dpY (andN n y) = dpY y ∧ opY (andN n y) = opY y
  | 0 => ⟨rfl, rfl⟩
  | n + 1 => by
    obtain ⟨a, b⟩ := andN_dp y n
    have := dpY_2 y
    exact ⟨by show max (dpY (andN n y)) 2 = _; omega, b⟩
theorem addN_dp (y : Sy) : ∀ n, dpY (addN n y) = dpY y ∧ opY (addN n y) = opY y
  | 0 => ⟨rfl, rfl⟩
  | n + 1 => by
    obtain ⟨a, b⟩ := addN_dp y n
    have := dpY_2 y
    exact ⟨by show max (dpY (addN n y)) 2 = _; omega, b⟩
theorem tree_dp {dp s q m v nm : Nat} {sp : Int} : dpY (treeY dp s q m v nm sp) ≤ dp + 3 ∧ dpY (treeY dp s q m v nm sp) ≤ opY (treeY dp s q m v nm sp) + 2 := by
  obtain ⟨u1, u2⟩ := parN_dp (.lf (lfX m v sp)) dp
  have e1 : dpY (.lf (lfX m v sp)) = 2 := rfl
  have e2 : opY (.lf (lfX m v sp)) = 0 := rfl
  unfold treeY
  split
  · obtain ⟨a1, a2⟩ := andN_dp (parN dp (.lf (lfX m v sp))) (s - 1)
    obtain ⟨b1, b2⟩ := addN_dp (.agg "sum" (nsX nm) (andN (s - 1) (parN dp (.lf (lfX m v sp))))) q
    have c1 : dpY (.agg "sum" (nsX nm) (andN (s - 1) (parN dp (.lf (lfX m v sp))))) = dpY (andN (s - 1) (parN dp (.lf (lfX m v sp)))) + 1 := rfl
    have c2 : opY (.agg "sum" (nsX nm) (andN (s - 1) (parN dp (.lf (lfX m v sp))))) = opY (andN (s - 1) (parN dp (.lf (lfX m v sp)))) + 1 := rfl
    omega
  · split
    · obtain ⟨b1, b2⟩ := addN_dp (parN dp (.lf (lfX m v sp))) q
      omega
    · obtain ⟨a1, a2⟩ := andN_dp (parN dp (.lf (lfX m v sp))) (s - 2)
      obtain ⟨b1, b2⟩ := addN_dp (.lf (.lat "b" [])) q
      have e3 : dpY (.lf (.lat "b" [])) = 2 := rfl
      show max (dpY (andN (s - 2) (parN dp (.lf (lfX m v sp))))) (dpY (addN q (.lf (.lat "b" [])))) ≤ dp + 3 ∧ max (dpY (andN (s - 2) (parN dp (.lf (lfX m v sp))))) (dpY (addN q (.lf (.lat "b" [])))) ≤ opY (andN (s - 2) (parN dp (.lf (lfX m v sp)))) + 2
      omega
/-! counts, sizes, kinds -/
def bigX : Xp → Bool
  | .num _ => false
  | .lat _ ms => bigM ms
  | .ovr _ _ ms _ => bigM ms
  | .agg _ ns e => bigX e || decide (6 < ns.length)
  | .bin _ l r => bigX l || bigX r
theorem any_ex : ∀ (e : Xp) (k : Nat), ((mkE k e).any fun m => bigS m.1) = bigX e
  | .num v, k => rfl
  | .lat m ms, k => by show (bigM ms || false) = bigM ms; rw [Bool.or_false]
  | .ovr w m ms n, k => by show (bigM ms || false) = bigM ms; rw [Bool.or_false]
  | .agg w ns e, k => by
    have em : mkE k (.agg w ns e) = mkE (k + (pcsC (hdP w ns)).length + 1) e ++ [(.ag w ns, k)] := rfl
    rw [em, List.any_append, any_ex e]
    show (bigX e || (decide (6 < ns.length) || false)) = (bigX e || decide (6 < ns.length))
    rw [Bool.or_false]
  | .bin s a b, k => by
    have two : ∀ (K1 K2 K3 : Nat), ((mkE K1 a ++ (mkE K2 b ++ [((.bi s, K3) : MkT)])).any fun m => bigS m.1) = (bigX a || bigX b) := fun K1 K2 K3 => by
      rw [List.any_append, List.any_append, any_ex a, any_ex b]
      show (bigX a || (bigX b || (false || false))) = _
      rw [Bool.or_false, Bool.or_false]
    unfold mkE
    cases decide (strF a < strF (.bin s a b)) <;> cases decide (strF b ≤ strF (.bin s a b)) <;> exact two _ _ _
theorem parN_er (y : Sy) : ∀ n, erY (parN n y) = erY y
  | 0 => rfl
  | n + 1 => parN_er y n
theorem kib_an : kib "and" .vec .vec = .vec ∧ kib "+" .vec .num = .vec := by
  refine ⟨?_, ?_⟩
  · show (if joins "and" = true then Ki.vec else Ki.vec) = .vec
    split <;> rfl
  · show (if joins "+" = true then Ki.no else Ki.vec) = .vec
    exact if_neg (by decide +kernel)
structure Cn (e : Xp) (s o : Nat) (b : Bool) : Prop where
  s : sels e = s
  o : opsN e = o
  b : bigX e = b
  k : kif e = .vec
theorem andN_cn {y : Sy} {s o : Nat} {b : Bool} (h : Cn (erY y) s o b) : ∀ n, Cn (erY (andN n y)) (s + n) (o + n) b
  | 0 => h
  | n + 1 => by
    obtain ⟨a1, a2, a3, a4⟩ := andN_cn h n
    refine ⟨by show sels (erY (andN n y)) + 1 = _; omega, by show opsN (erY (andN n y)) + 0 + 1 = _; omega, ?_, ?_⟩
    · show (bigX (erY (andN n y)) || bigM []) = b
      rw [a3, show bigM [] = false from rfl, Bool.or_false]
    · show kib "and" (kif (erY (andN n y))) .vec = .vec
      rw [a4]; exact kib_an.1
theorem addN_cn {y : Sy} {s o : Nat} {b : Bool} (h : Cn (erY y) s o b) : ∀ n, Cn (erY (addN n y)) s (o + n) b
  | 0 => h
  | n + 1 => by
    obtain ⟨a1, a2, a3, a4⟩ := addN_cn h n
    refine ⟨by show sels (erY (addN n y)) + 0 = _; omega, by show opsN (erY (addN n y)) + 0 + 1 = _; omega, ?_, ?_⟩
    · show (bigX (erY (addN n y)) || false) = b
      rw [a3, Bool.or_false]
    · show kib "+" (kif (erY (addN n y))) .num = .vec
      rw [a4]; exact kib_an.2
theorem big_m {m v : Nat} : bigM (msX m v) = (decide (6 < m) || (decide (0 < m) && decide (6 < v))) := by
  unfold bigM msX
  by_cases h : m = 0
  · rw [if_pos h]
    subst h; rfl
  · rw [if_neg h, List.any_cons, List.length_cons, List.length_replicate]
    have e1 : ((List.replicate (m - 1) (("l", ["v"], true) : Mt)).any fun x => decide (6 < x.2.1.length)) = false := by
      refine List.any_eq_false.mpr fun x hx => ?_
      rw [List.eq_of_mem_replicate hx]
      decide
    have e2 : ((("l", List.replicate v "v", true) : Mt).2.1).length = v := List.length_replicate
    rw [e1, e2, Bool.or_false, decide_eq_true (show 0 < m by omega), Bool.true_and, show m - 1 + 1 = m by omega]
theorem tree_cn {dp s q m v nm : Nat} {sp : Int} (hs : 0 < s) : Cn (erY (treeY dp s q m v nm sp)) s (s - 1 + q + (if 0 < nm then 1 else 0)) (decide (6 < m) || (decide (0 < m) && decide (6 < v)) || decide (6 < nm)) := by
  have u : Cn (erY (parN dp (.lf (lfX m v sp)))) 1 0 (bigM (msX m v)) := by
    rw [parN_er]; exact ⟨rfl, rfl, rfl, rfl⟩
  rw [big_m] at u
  unfold treeY
  by_cases hn : 0 < nm
  · rw [if_pos hn, if_pos hn]
    have a := andN_cn u (s - 1)
    have g : Cn (erY (.agg "sum" (nsX nm) (andN (s - 1) (parN dp (.lf (lfX m v sp)))))) (1 + (s - 1)) (0 + (s - 1) + 1) (decide (6 < m) || (decide (0 < m) && decide (6 < v)) || decide (6 < nm)) := by
      refine ⟨a.s, by show opsN _ + 1 = _; rw [a.o], ?_, ?_⟩
      · show (bigX (erY (andN (s - 1) (parN dp (.lf (lfX m v sp))))) || decide (6 < (nsX nm).length)) = _
        rw [a.b, show (nsX nm).length = nm from List.length_replicate]
      · show (match kif (erY (andN (s - 1) (parN dp (.lf (lfX m v sp))))) with | .vec => Ki.vec | _ => .no) = .vec
        rw [a.k]
    have f := addN_cn g q
    exact ⟨by rw [f.s]; omega, by rw [f.o]; omega, f.b, f.k⟩
  · rw [if_neg hn, if_neg hn, decide_eq_false (show ¬ 6 < nm by omega), Bool.or_false]
    by_cases h1 : s = 1
    · rw [if_pos h1]
      have f := addN_cn u q
      exact ⟨by rw [f.s]; omega, by rw [f.o]; omega, f.b, f.k⟩
    · rw [if_neg h1]
      have a := andN_cn u (s - 2)
      have f := addN_cn (y := .lf (.lat "b" [])) (s := 1) (o := 0) (b := false) ⟨rfl, rfl, rfl, rfl⟩ q
      refine ⟨by show sels _ + sels _ = _; rw [a.s, f.s]; omega, by show opsN _ + opsN _ + 1 = _; rw [a.o, f.o]; omega, ?_, ?_⟩
      · show (bigX _ || bigX _) = _
        rw [a.b, f.b, Bool.or_false]
      · show kib "and" (kif _) (kif _) = .vec
        rw [a.k, f.k]; exact kib_an.1
/-! where the span stands -/
def NoV (R : List MkT) : Prop := spnF R = none ∧ ∀ R', spnF (R ++ R') = spnF R'
theorem nov_app {a b : List MkT} (h1 : NoV a) (h2 : NoV b) : NoV (a ++ b) := ⟨by rw [h1.2]; exact h2.1, fun R' => by rw [List.append_assoc, h1.2, h2.2]⟩
theorem nov_bi (s : Str) (n : Nat) : NoV [(.bi s, n)] := ⟨rfl, fun _ => rfl⟩
theorem nov_ag (w : Str) (ns : List Str) (n : Nat) : NoV [(.ag w ns, n)] := ⟨rfl, fun _ => rfl⟩
theorem nov_b (k : Nat) : NoV (mkY k (.lf (.lat "b" []))) := ⟨rfl, fun _ => rfl⟩
theorem nov_1 (k : Nat) : NoV (mkY k (.lf (.num 1))) := ⟨rfl, fun _ => rfl⟩
theorem nov_add {y : Sy} (h : ∀ k, NoV (mkY k y)) : ∀ n k, NoV (mkY k (addN n y))
  | 0, k => h k
  | n + 1, k => nov_app (nov_add h n k) (nov_app (nov_1 _) (nov_bi _ _))
theorem spn_app : ∀ {a b : List MkT}, NoV b → spnF (a ++ b) = spnF a
  | [], b, h => h.1
  | m :: a, b, h => by
    have ih := spn_app (a := a) h
    obtain ⟨x, n⟩ := m
    have gen : ∀ (c : List MkT), spnF ((x, n) :: c) = match x with | .lf (.ovr _ _ _ v) => if 1 ≤ v ∧ v ≤ 1000 then spnF c else some n | _ => spnF c := fun c => by
      (rw [spnF]) <;> rfl
    rw [List.cons_append, gen, gen, ih]
theorem spn_and {y : Sy} : ∀ n k, spnF (mkY k (andN n y)) = spnF (mkY k y)
  | 0, k => rfl
  | n + 1, k => by
    show spnF (mkY k (andN n y) ++ (mkY _ (.lf (.lat "b" [])) ++ [(.bi "and", _)])) = _
    rw [spn_app (nov_app (nov_b _) (nov_bi _ _)), spn_and n k]
theorem spn_add {y : Sy} : ∀ n k, spnF (mkY k (addN n y)) = spnF (mkY k y)
  | 0, k => rfl
  | n + 1, k => by
    show spnF (mkY k (addN n y) ++ (mkY _ (.lf (.num 1)) ++ [(.bi "+", _)])) = _
    rw [spn_app (nov_app (nov_1 _) (nov_bi _ _)), spn_add n k]
theorem mk_par {y : Sy} : ∀ n k, mkY k (parN n y) = mkY (k + n) y
  | 0, k => rfl
  | n + 1, k => by
    show mkY (k + 1) (parN n y) = _
    rw [mk_par n, show k + 1 + n = k + (n + 1) by omega]
def hdL (nm : Nat) : Nat := if 0 < nm then (pcsC (hdP "sum" (nsX nm))).length + 1 else 0
def spL (dp m v nm : Nat) : Nat := hdL nm + dp + 8 + 1 + (pcsC (seZ "a" (msX m v))).length + 1
theorem spn_tree {dp s q m v nm : Nat} {sp : Int} : spnF (mkY 0 (treeY dp s q m v nm sp)) = if 1 ≤ sp ∧ sp ≤ 1000 then none else some (spL dp m v nm) := by
  have lf : ∀ k, spnF (mkY k (parN dp (.lf (lfX m v sp)))) = if 1 ≤ sp ∧ sp ≤ 1000 then none else some (k + dp + 8 + 1 + (pcsC (seZ "a" (msX m v))).length + 1) := fun k => by
    rw [mk_par]; rfl
  unfold treeY spL hdL
  split
  · rw [spn_add]
    show spnF (mkY (0 + (pcsC (hdP "sum" (nsX nm))).length + 1) _ ++ [(.ag "sum" (nsX nm), 0)]) = _
    rw [spn_app (nov_ag _ _ _), spn_and, lf]
    congr 2
    omega
  · split
    · rw [spn_add, lf]
    · show spnF (mkY 0 (andN (s - 2) (parN dp (.lf (lfX m v sp)))) ++ (mkY _ (addN q (.lf (.lat "b" []))) ++ [(.bi "and", _)])) = _
      rw [spn_app (nov_app (nov_add nov_b q _) (nov_bi _ _)), spn_and, lf]
def manyB (s q m v nm : Nat) : Bool := (decide (6 < s) || (decide (8 < s - 1 + q + (if 0 < nm then 1 else 0)) || (decide (6 < m) || (decide (0 < m) && decide (6 < v)) || decide (6 < nm))))
/-- what parse answers, by the law's numbers -/
theorem out_lim {C : Addr} {dp s q m v nm n : Nat} {sp : Int} (hs : 0 < s) : outK C (mkY 0 (treeY dp s q m v nm sp)) (erY (treeY dp s q m v nm sp)) n =
    if manyB s q m v nm = true then exc2 C "many" n
    else if 1 ≤ sp ∧ sp ≤ 1000 then .val (exD (erY (treeY dp s q m v nm sp))) else exc2 C "span" (spL dp m v nm) := by
  have c := tree_cn (dp := dp) (q := q) (m := m) (v := v) (nm := nm) (sp := sp) hs
  have st := spn_tree (dp := dp) (s := s) (q := q) (m := m) (v := v) (nm := nm) (sp := sp)
  generalize treeY dp s q m v nm sp = T at c st ⊢
  have hm : mk1 (mkE 0 (erY T)) = mk1 (mkY 0 T) := (mkE_st (erY T) 0).trans (mkY_st T 0).symm
  obtain ⟨_, c1, c2, _, c4⟩ := mk_eq hm
  obtain ⟨d1, d2⟩ := cnt_ex (erY T) 0
  have an := any_ex (erY T) 0
  have kn := (kn_ex (erY T) 0 [] []).1
  rw [List.append_nil, fst_none (erY T) 0 (by rw [c.k]; intro z; cases z)] at kn
  have sz : szB (mkY 0 T) = manyB s q m v nm := by
    unfold szB manyB
    rw [← c1, ← c1, ← c1, ← c1, ← c2, d1, d2, an, c.s, c.o, c.b]
  unfold outK
  rw [sz, st, c4 [] kn]
  generalize manyB s q m v nm = b
  cases b with
  | true => rfl
  | false =>
    by_cases h : 1 ≤ sp ∧ sp ≤ 1000
    · simp [h]
    · simp [h]
/-! ### the law's text -/
theorem rep_fold : ∀ (k : Nat) (a acc : Array Nat), ((List.replicate k a).foldl (· ++ ·) acc).toList = acc.toList ++ (List.replicate k a.toList).flatten
  | 0, a, acc => by simp
  | k + 1, a, acc => by
    rw [List.replicate_succ, List.foldl_cons, rep_fold k a, Array.toList_append, List.append_assoc, List.replicate_succ, List.flatten_cons]
theorem rep_nil : ∀ n : Nat, (List.replicate n ([] : List Nat)).flatten = []
  | 0 => rfl
  | n + 1 => by rw [List.replicate_succ, List.flatten_cons, rep_nil n]; rfl
theorem mul_cps (x : Str) (n : Nat) : (mulS x (n : Int)).cps.toList = (List.replicate n x.cps.toList).flatten := by
  unfold mulS
  by_cases h0 : (n : Int) < 1
  · have : n = 0 := by omega
    subst this
    rfl
  · rw [if_neg h0]
    by_cases h1 : n = 1
    · subst h1
      have e : (((1 : Nat) : Int) == 1 || x.length == 0) = true := rfl
      rw [if_pos e]
      show x.cps.toList = [x.cps.toList].flatten
      simp
    · have e : ((n : Int) == 1) = false := beq_eq_false_iff_ne.mpr (by omega)
      by_cases h2 : x.length = 0
      · have e2 : ((n : Int) == 1 || x.length == 0) = true := by rw [h2]; simp
        rw [if_pos e2]
        have hx : x.cps.toList = [] := List.length_eq_zero_iff.mp (by rw [cps_len]; exact h2)
        rw [hx, rep_nil]
      · have e2 : ((n : Int) == 1 || x.length == 0) = false := by rw [e, beq_eq_false_iff_ne.mpr h2]; rfl
        rw [if_neg (by rw [e2]; decide)]
        show ((List.replicate ((n : Int)).toNat x.cps).foldl (· ++ ·) #[]).toList = _
        rw [rep_fold, Int.toNat_natCast]; rfl
theorem rep_len (l : List Nat) : ∀ n : Nat, ((List.replicate n l).flatten).length = n * l.length
  | 0 => by simp
  | n + 1 => by rw [List.replicate_succ, List.flatten_cons, List.length_append, rep_len l n, Nat.add_mul, Nat.one_mul, Nat.add_comm]
theorem mul_len (x : Str) (n : Nat) : (mulS x (n : Int)).length = n * x.length := by rw [← cps_len, mul_cps, rep_len, cps_len]
theorem rep_snoc (l : List Nat) (n : Nat) : (List.replicate (n + 1) l).flatten = (List.replicate n l).flatten ++ l := by
  rw [List.replicate_succ', List.flatten_append]
  simp
def inS (v : Nat) : Str := ("l in (" : Str) ++ Txt.join ", " (List.replicate v "\"v\"") ++ ")"
def rowS (m v : Nat) : List Str := inS v :: List.replicate (m - 1) "l=\"v\""
def selZ (m v : Nat) : Str := if 0 < m then ("increase(a" : Str) ++ "{" ++ Txt.join ", " (rowS m v) ++ "}" else "increase(a"
def in2 (m v : Nat) (sp : Int) : Str := selZ m v ++ "[" ++ tS sp ++ "])"
def tx0 (dp m v : Nat) (sp : Int) : Str := mulS "(" (dp : Int) ++ in2 m v sp ++ mulS ")" (dp : Int)
def tx1 (dp s m v : Nat) (sp : Int) : Str := tx0 dp m v sp ++ mulS " and b" ((s - 1 : Nat) : Int)
def hdS (nm : Nat) : Str := ("sum by (" : Str) ++ Txt.join ", " (List.replicate nm "n") ++ ") ("
def tx2 (dp s m v nm : Nat) (sp : Int) : Str := if 0 < nm then hdS nm ++ tx1 dp s m v sp ++ ")" else tx1 dp s m v sp
def tx3 (dp s q m v nm : Nat) (sp : Int) : Str := tx2 dp s m v nm sp ++ mulS " + 1" (q : Int)
/-! its codes -/
theorem in_C {v : Nat} : pcsC (inF (("l", List.replicate v "v", true) : Mt)) = (inS v).cps.toList := by
  unfold inF inS
  rw [app_cps, app_cps, cons_C, cons_C, cons_C, cons_C, cons_C, pcsC_app, jn_J (fun v => [.q v]) qS q_C, cons_C, nil_C, List.append_nil]
  have e : (List.replicate v ("v" : Str)).map qS = List.replicate v ("\"v\"" : Str) := by
    rw [List.map_replicate]; rfl
  show ("l" : Str).cps.toList ++ ([32] ++ (("in" : Str).cps.toList ++ ([32] ++ (("(" : Str).cps.toList ++ ((Txt.join ", " ((List.replicate v ("v" : Str)).map qS)).cps.toList ++ (")" : Str).cps.toList))))) = _
  rw [e]
  simp only [List.append_assoc]
  rfl
def rwP (v : Nat) : Bool → List Pc
  | true => inF (("l", List.replicate v "v", true) : Mt)
  | false => mtP (("l", ["v"], true) : Mt)
def rwS (v : Nat) : Bool → Str
  | true => inS v
  | false => "l=\"v\""
theorem rw_C (v : Nat) : ∀ b, pcsC (rwP v b) = (rwS v b).cps.toList
  | true => in_C
  | false => by
    show pcsC (mtP (("l", ["v"], true) : Mt)) = _
    rw [mt_C]; rfl
theorem row_C {m v : Nat} : pcsC (inF (("l", List.replicate v "v", true) : Mt) ++ juP ((List.replicate (m - 1) (("l", ["v"], true) : Mt)).map mtP)) = (Txt.join ", " (rowS m v)).cps.toList := by
  have h := jn_J (rwP v) (rwS v) (rw_C v) (true :: List.replicate (m - 1) false)
  rw [List.map_cons, List.map_cons, List.map_replicate, List.map_replicate] at h
  have e : (List.replicate (m - 1) (("l", ["v"], true) : Mt)).map mtP = List.replicate (m - 1) (rwP v false) := by rw [List.map_replicate]; rfl
  rw [e]
  exact h
theorem sel_C {m v : Nat} : ("increase" : Str).cps.toList ++ (("(" : Str).cps.toList ++ pcsC (seZ "a" (msX m v))) = (selZ m v).cps.toList := by
  unfold selZ msX
  by_cases h : m = 0
  · rw [if_pos h, if_neg (by omega)]
    rfl
  · rw [if_neg h, if_pos (by omega), app_cps, app_cps, app_cps]
    show ("increase" : Str).cps.toList ++ (("(" : Str).cps.toList ++ pcsC (.w "a" :: .y "{" :: ((inF (("l", List.replicate v "v", true) : Mt) ++ juP ((List.replicate (m - 1) (("l", ["v"], true) : Mt)).map mtP)) ++ [.y "}"]))) = _
    rw [cons_C, cons_C, pcsC_app, row_C, cons_C, nil_C, List.append_nil]
    simp only [List.append_assoc]
    rfl
theorem lf_C {m v : Nat} {sp : Int} : pcsC (lfP (lfX m v sp)) = (in2 m v sp).cps.toList := by
  unfold in2
  rw [app_cps, app_cps, app_cps, ← sel_C]
  show pcsC (.w "increase" :: .y "(" :: (seZ "a" (msX m v) ++ (.y "[" :: (nuP sp ++ [.y "]", .y ")"])))) = _
  rw [cons_C, cons_C, pcsC_app, cons_C, pcsC_app, nu_C, cons_C, cons_C, nil_C, List.append_nil]
  simp only [List.append_assoc]
  rfl
theorem par_C {y : Sy} {t : Str} (h : pcsC (syP y) = t.cps.toList) : ∀ n : Nat, pcsC (syP (parN n y)) = (mulS "(" (n : Int) ++ t ++ mulS ")" (n : Int)).cps.toList := by
  intro n
  rw [app_cps, app_cps, mul_cps, mul_cps]
  induction n with
  | zero => show pcsC (syP y) = [] ++ t.cps.toList ++ []; rw [h, List.append_nil]; rfl
  | succ n ih =>
    show pcsC (.y "(" :: (syP (parN n y) ++ [.y ")"])) = _
    rw [cons_C, pcsC_app, ih, cons_C, nil_C, List.append_nil, rep_snoc (")" : Str).cps.toList, List.replicate_succ, List.flatten_cons]
    show ("(" : Str).cps.toList ++ ((((List.replicate n ("(" : Str).cps.toList).flatten ++ t.cps.toList) ++ (List.replicate n (")" : Str).cps.toList).flatten) ++ (")" : Str).cps.toList) = _
    simp only [List.append_assoc]
theorem and_C {y : Sy} {t : Str} (h : pcsC (syP y) = t.cps.toList) : ∀ n : Nat, pcsC (syP (andN n y)) = t.cps.toList ++ (List.replicate n (" and b" : Str).cps.toList).flatten
  | 0 => by show pcsC (syP y) = t.cps.toList ++ []; rw [h, List.append_nil]
  | n + 1 => by
    show pcsC (syP (andN n y) ++ (.b :: sgP "and" :: .b :: exP (.lat "b" []))) = _
    rw [pcsC_app, and_C h n, rep_snoc, List.append_assoc]
    rfl
theorem add_C {y : Sy} {t : List Nat} (h : pcsC (syP y) = t) : ∀ n : Nat, pcsC (syP (addN n y)) = t ++ (List.replicate n (" + 1" : Str).cps.toList).flatten
  | 0 => by show pcsC (syP y) = t ++ []; rw [h, List.append_nil]
  | n + 1 => by
    show pcsC (syP (addN n y) ++ (.b :: sgP "+" :: .b :: exP (.num 1))) = _
    rw [pcsC_app, add_C h n, rep_snoc, List.append_assoc]
    rfl
theorem hd_S {nm : Nat} (h : 0 < nm) : pcsC (hdP "sum" (nsX nm)) ++ ("(" : Str).cps.toList = (hdS nm).cps.toList := by
  rw [hd_C]
  unfold headF hdS
  rw [if_pos (by unfold nsX; rw [List.length_replicate]; exact h), app_cps, app_cps, app_cps, app_cps, app_cps]
  unfold nsX
  simp only [List.append_assoc]
  rfl
theorem tree_C {dp s q m v nm : Nat} {sp : Int} (hs : 0 < s) : pcsC (syP (treeY dp s q m v nm sp)) = (tx3 dp s q m v nm sp).cps.toList := by
  have u : pcsC (syP (parN dp (.lf (lfX m v sp)))) = (tx0 dp m v sp).cps.toList := par_C (y := .lf (lfX m v sp)) lf_C dp
  have e1 : ∀ n, (tx0 dp m v sp).cps.toList ++ (List.replicate n (" and b" : Str).cps.toList).flatten = (tx0 dp m v sp ++ mulS " and b" (n : Int)).cps.toList := fun n => by rw [app_cps, mul_cps]
  unfold treeY tx3 tx2
  rw [app_cps, mul_cps]
  by_cases hn : 0 < nm
  · rw [if_pos hn, if_pos hn]
    refine add_C ?_ q
    show pcsC (hdP "sum" (nsX nm) ++ (.y "(" :: (syP (andN (s - 1) (parN dp (.lf (lfX m v sp)))) ++ [.y ")"]))) = _
    rw [pcsC_app, cons_C, pcsC_app, and_C u, e1, cons_C, nil_C, List.append_nil]
    unfold tx1
    simp only [app_cps, ← hd_S hn, List.append_assoc]
    rfl
  · rw [if_neg hn, if_neg hn]
    by_cases h1 : s = 1
    · rw [if_pos h1]
      refine add_C ?_ q
      rw [u]
      unfold tx1
      rw [h1, app_cps, mul_cps]
      show _ = _ ++ []
      rw [List.append_nil]
    · rw [if_neg h1]
      show pcsC (syP (andN (s - 2) (parN dp (.lf (lfX m v sp)))) ++ (.b :: sgP "and" :: .b :: syP (addN q (.lf (.lat "b" []))))) = _
      rw [pcsC_app, and_C u, cons_C, cons_C, cons_C, add_C (y := .lf (.lat "b" [])) rfl q]
      unfold tx1
      rw [app_cps, mul_cps, show s - 1 = s - 2 + 1 by omega, rep_snoc]
      simp only [List.append_assoc]
      rfl
/-! lengths, places -/
theorem jn_rep {z x : Str} {n : Nat} : (Txt.join z (List.replicate n x)).length ≤ n * x.length + n * z.length := by
  refine Nat.le_trans (join_len9 _ _) (jn_le (k := n) (B := x.length) (by rw [List.length_replicate]; exact Nat.le_refl _) fun y hy => by rw [List.eq_of_mem_replicate hy]; exact Nat.le_refl _)
theorem l_lits : ("l in (" : Str).length = 6 ∧ ("\"v\"" : Str).length = 3 ∧ (", " : Str).length = 2 ∧ (")" : Str).length = 1 ∧ ("l=\"v\"" : Str).length = 5 ∧ ("increase(a" : Str).length = 10 ∧ ("n" : Str).length = 1 ∧ ("(" : Str).length = 1 ∧ (" and b" : Str).length = 6 ∧ (" + 1" : Str).length = 4 := by decide +kernel
theorem inS_len {v : Nat} (h : v ≤ 9) : (inS v).length ≤ 60 := by
  have hj := jn_rep (z := ", ") (x := "\"v\"") (n := v)
  obtain ⟨a1, a2, a3, a4, _⟩ := l_lits
  rw [a2, a3] at hj
  unfold inS
  rw [app_len, app_len, a1, a4]
  omega
theorem row_len {m v : Nat} (h : v ≤ 9) (hm : m ≤ 9) : (Txt.join ", " (rowS m v)).length ≤ 1000 := by
  have := inS_len h
  obtain ⟨_, _, a3, _, a5, _⟩ := l_lits
  refine Nat.le_trans (join_len9 _ _) (Nat.le_trans (jn_le (k := 10) (B := 60) (by unfold rowS; rw [List.length_cons, List.length_replicate]; omega) fun y hy => ?_) (by rw [a3]; decide))
  rcases List.mem_cons.mp hy with rfl | hy
  · exact this
  · rw [List.eq_of_mem_replicate hy, a5]; decide
theorem selZ_len {m v : Nat} : (selZ m v).length = 8 + (1 + (pcsC (seZ "a" (msX m v))).length) := by
  rw [← cps_len, ← sel_C, List.length_append, List.length_append]; rfl
theorem selZ_le {m v : Nat} (h : v ≤ 9) (hm : m ≤ 9) : (selZ m v).length ≤ 1100 := by
  have := row_len h hm
  unfold selZ
  split
  · rw [app_len, app_len, app_len, l_lits.2.2.2.2.2.1, show ("{" : Str).length = 1 from rfl, show ("}" : Str).length = 1 from rfl]
    omega
  · rw [l_lits.2.2.2.2.2.1]; decide
theorem hdS_len {nm : Nat} (h : 0 < nm) : (hdS nm).length = hdL nm := by
  unfold hdL
  rw [if_pos h, ← cps_len, ← hd_S h, List.length_append]; rfl
theorem hdS_le {nm : Nat} (h : nm ≤ 9) : (hdS nm).length ≤ 100 := by
  have hj := jn_rep (z := ", ") (x := "n") (n := nm)
  obtain ⟨_, _, a3, _, _, _, a7, _⟩ := l_lits
  rw [a3, a7] at hj
  unfold hdS
  rw [app_len, app_len, show ("sum by (" : Str).length = 8 from rfl, show (") (" : Str).length = 3 from rfl]
  omega
theorem tx3_le {dp s q m v nm : Nat} {sp : Int} (h1 : dp ≤ 30) (h2 : s ≤ 9) (h3 : q ≤ 9) (h4 : m ≤ 9) (h5 : v ≤ 9) (h6 : nm ≤ 9) (hf : sp.natAbs.log2 < 1920) : (in2 m v sp).length ≤ 4000 ∧ (tx0 dp m v sp).length ≤ 5000 ∧ (tx1 dp s m v sp).length ≤ 6000 ∧ (tx2 dp s m v nm sp).length ≤ 7000 ∧ (tx3 dp s q m v nm sp).length ≤ 8000 := by
  have a := selZ_le h5 h4
  have t := tS_len hf
  obtain ⟨_, _, _, l4, _, _, _, l8, l9, l10⟩ := l_lits
  have b : (in2 m v sp).length ≤ 4000 := by
    unfold in2
    rw [app_len, app_len, app_len, show ("[" : Str).length = 1 from rfl, show ("])" : Str).length = 2 from rfl]
    omega
  have c : (tx0 dp m v sp).length ≤ 5000 := by
    unfold tx0
    rw [app_len, app_len, mul_len, mul_len, l4, l8]
    omega
  have d : (tx1 dp s m v sp).length ≤ 6000 := by
    unfold tx1
    rw [app_len, mul_len, l9]
    omega
  have hh := hdS_le h6
  have e : (tx2 dp s m v nm sp).length ≤ 7000 := by
    unfold tx2
    split
    · rw [app_len, app_len, l4]; omega
    · omega
  refine ⟨b, c, d, e, ?_⟩
  unfold tx3
  rw [app_len, mul_len, l10]
  omega
/-! the law's walk over the signs -/
def lpG : Option Nat → Int → Nat → List Nat → Option Nat
  | du, _, _, [] => du
  | du, d, k, c :: r => if c = 40 then lpG (if 20 ≤ d ∧ du = none then some k else du) (d + 1) (k + 1) r else if c = 41 then lpG du (d - 1) (k + 1) r else lpG du d (k + 1) r
theorem lp_some : ∀ (cs : List Nat) (n : Nat) (d : Int) (k : Nat), lpG (some n) d k cs = some n
  | [], n, d, k => rfl
  | c :: r, n, d, k => by
    rw [lpG]
    split
    · rw [if_neg (fun z => by cases z.2)]; exact lp_some r n _ _
    · split
      · exact lp_some r n _ _
      · exact lp_some r n _ _
theorem lp_cd : ∀ (cs : List Nat) (d : Int) (k : Nat), d ≤ 20 → lpG none d k cs = cdC d k cs
  | [], d, k, _ => rfl
  | c :: r, d, k, h => by
    rw [lpG, cdC]
    by_cases h40 : c = 40
    · rw [if_pos h40, if_pos h40]
      by_cases h20 : d = 20
      · rw [if_pos h20, if_pos ⟨by omega, rfl⟩, lp_some]
      · rw [if_neg h20, if_neg (fun z => h20 (by omega)), lp_cd r _ _ (by omega)]
    · rw [if_neg h40, if_neg h40]
      by_cases h41 : c = 41
      · rw [if_pos h41, if_pos h41, lp_cd r _ _ (by omega)]
      · rw [if_neg h41, if_neg h41, lp_cd r _ _ h]
/-! isinstance in an except suite, try/except as a first statement -/
theorem q_tryX {g : Gd} {G : List Sl} {D : Ends} {ta : TA} {ds : List PyData} {i j : Nat} {tw : TS} {R : List PyData → Out → Prop} {o : Out} {c : Value} {ts : Addr → Value → Option Addr → TS} {Wout : WX} (ha : A g ta G ds) (r : R ds o)
    (hv : ∀ d, o = .val d → S g tw D (G.set j (.fz d)))
    (hx : ∀ C fs, o = .exc C fs → PySem.W.exmOne g.K (.ref C) c = some true ∧ ∀ a dx ws F1, F1 dx = some (.xd ws) → FsOk g.K F1 ws fs →
      S { g with Fl := F1 } (ts a (.ref C) (some dx)) { nx := fun σ' H' => tw D (σ'.set i none) H', rt := D.rt, bk := fun σ' H' => D.bk (σ'.set i none) H', ct := fun σ' H' => D.ct (σ'.set i none) H' } (G.set i (.raw (.ref a)))) :
    S g (tSeq (fun D σ H => tAsg (tCallS (spX g.K g.T R) (WE (wAs g.K c i ts Wout D)) ta) (gName j) D σ H) tw) D G := s_tryX (D := { D with nx := tw D }) ha r hv hx
/-! ### the law itself -/
def SPs : List Int := [1, 2, 999, 1000, 0, 1001, 7, 999999999999999]
abbrev Du := Option (Str × Nat)
def duT : Du → PyData
  | none => .none
  | some p => .tuple [.str p.1, .int (p.2 : Nat)]
theorem du_n (o : Du) : isND (duT o) = o.isNone := by cases o <;> rfl
def dpD (o : Option Nat) : Du := o.map fun n => ("deep", n)
def due2 (dz : Option Nat) (mb : Bool) (n : Nat) : Du := if ((dpD dz).isNone && mb) = true then some ("many", n) else dpD dz
def due3 (dz : Option Nat) (mb : Bool) (n pl : Nat) (sp : Int) : Du := if ((due2 dz mb n).isNone && (decide (sp < 1) || decide (1000 < sp))) = true then some ("span", pl) else due2 dz mb n
def due4 (dz : Option Nat) (mb : Bool) (n pl : Nat) (sp : Int) : Du := if decide (((n : Nat) : Int) > 300) = true then some ("long", 300) else due3 dz mb n pl sp
def outL (C : Addr) (e : Xp) : Du → Out
  | none => .val (exD e)
  | some p => exc2 C p.1 p.2
theorem pick {b : Bool} {x y n : Int} (hx : 0 ≤ x ∧ x < n) (hy : 0 ≤ y ∧ y < n) : 0 ≤ (if b = true then x else y) ∧ (if b = true then x else y) < n := by cases b <;> assumption
theorem md2 (x k n : Int) (hk : 0 < k) (h : k ≤ n) : 0 ≤ x % k ∧ x % k < n := by have := md x k hk; omega
theorem nat_of {x n : Int} (h : 0 ≤ x ∧ x < n) : ∃ k : Nat, (k : Int) = x ∧ (k : Int) < n := ⟨x.toNat, by omega, by omega⟩
theorem sp_mem : ∀ i < 8, ∃ sp, SPs[i]? = some sp ∧ 0 ≤ sp ∧ sp ≤ 999999999999999 := by
  intro i hi
  have a : ∀ i < 8, (SPs.getD i 0 : Int) ≥ 0 ∧ SPs.getD i 0 ≤ 999999999999999 ∧ i < SPs.length := by decide +kernel
  obtain ⟨h1, h2, h3⟩ := a i hi
  refine ⟨SPs[i], List.getElem?_eq_getElem h3, ?_, ?_⟩
  · rw [List.getD_eq_getElem?_getD, List.getElem?_eq_getElem h3] at h1; exact h1
  · rw [List.getD_eq_getElem?_getD, List.getElem?_eq_getElem h3] at h2; exact h2
theorem ch_eq (c : Nat) : ((⟨#[c]⟩ : Str) = "(" ↔ c = 40) ∧ ((⟨#[c]⟩ : Str) = ")" ↔ c = 41) := by
  have e1 : ("(" : Str) = ⟨#[40]⟩ := by decide +kernel
  have e2 : (")" : Str) = ⟨#[41]⟩ := by decide +kernel
  rw [e1, e2]
  refine ⟨⟨fun h => ?_, fun h => by rw [h]⟩, ⟨fun h => ?_, fun h => by rw [h]⟩⟩
  · injection h with h
    have := congrArg Array.toList h
    injection this
  · injection h with h
    have := congrArg Array.toList h
    injection this
theorem lp_end {cs : List Nat} {du : Option Nat} {d : Int} {i : Nat} (h : lpG none 0 0 cs = lpG du d i (cs.drop i)) (hi : cs.length ≤ i) : du = cdC 0 0 cs := by
  rw [List.drop_eq_nil_of_le hi, lp_cd cs 0 0 (by decide)] at h
  exact h.symm
theorem mb_eq (a b c d e f : Bool) : (a || (b || (c || (d || (e && f))))) = (a || (b || (c || (e && f) || d))) := by cases a <;> cases b <;> cases c <;> cases d <;> cases e <;> cases f <;> rfl
/-- what parse answers is what the law has due -/
theorem par_due {C : Addr} {dp s q m v nm : Nat} {sp : Int} (hs : 0 < s) (hv : 0 < v) (h0 : 0 ≤ sp) (h1 : sp ≤ 999999999999999) (hd : dp ≤ 30) (ho : s ≤ 30 ∧ q ≤ 30) :
    let t := tx3 dp s q m v nm sp
    let o := due4 (cdC 0 0 t.cps.toList) (manyB s q m v nm) t.length (spL dp m v nm) sp
    prO C t (outL C (erY (treeY dp s q m v nm sp)) o) ∧ (o = none → manyB s q m v nm = false) := by
  intro t o
  have hO := tree_O (dp := dp) (s := s) (q := q) (m := m) (nm := nm) hv h0 h1
  have hdp := tree_dp (dp := dp) (s := s) (q := q) (m := m) (v := v) (nm := nm) (sp := sp)
  have hc := tree_cn (dp := dp) (q := q) (m := m) (v := v) (nm := nm) (sp := sp) hs
  have ht : t.cps.toList = pcsC (syP (treeY dp s q m v nm sp)) := (tree_C hs).symm
  have out := fun n => out_lim (C := C) (dp := dp) (q := q) (m := m) (v := v) (nm := nm) (sp := sp) (n := n) hs
  by_cases hl : 300 < t.length
  · have eo : o = some (("long" : Str), 300) := if_pos (decide_eq_true (by omega))
    rw [eo]
    exact ⟨par_long hl, fun z => by cases z⟩
  · have eo : o = due3 (cdC 0 0 t.cps.toList) (manyB s q m v nm) t.length (spL dp m v nm) sp := if_neg (by rw [decide_eq_false (by omega)]; decide)
    have hops : opsN (erY (treeY dp s q m v nm sp)) ≤ 100 := by rw [hc.o]; split <;> omega
    have p := par_z (C := C) hO (by omega) hdp.2 hops ht (by omega)
    rw [eo]
    cases hz : cdC 0 0 t.cps.toList with
    | some n =>
      rw [hz] at p
      exact ⟨p, fun z => by cases z⟩
    | none =>
      rw [hz] at p
      have p : prO C t (outK C (mkY 0 (treeY dp s q m v nm sp)) (erY (treeY dp s q m v nm sp)) t.length) := p
      rw [out] at p
      cases hm : manyB s q m v nm with
      | true =>
        rw [hm, if_pos rfl] at p
        exact ⟨p, fun z => by cases z⟩
      | false =>
        rw [hm, if_neg (by decide)] at p
        by_cases hsp : 1 ≤ sp ∧ sp ≤ 1000
        · rw [if_pos hsp] at p
          have e3 : due3 none false t.length (spL dp m v nm) sp = none := by
            unfold due3
            rw [decide_eq_false (by omega : ¬ sp < 1), decide_eq_false (by omega : ¬ 1000 < sp)]
            rfl
          rw [e3]
          exact ⟨p, fun _ => rfl⟩
        · rw [if_neg hsp] at p
          have e3 : due3 none false t.length (spL dp m v nm) sp = some (("span" : Str), spL dp m v nm) := by
            unfold due3
            have : (decide (sp < 1) || decide (1000 < sp)) = true := by
              by_cases h : sp < 1
              · rw [decide_eq_true h]; rfl
              · rw [decide_eq_true (by omega : 1000 < sp), Bool.or_true]
            rw [this]
            rfl
          rw [e3]
          exact ⟨p, fun z => by cases z⟩
section
variable {P : Program} {w : World} {K : PySem.W.Frag} {mg : Str → Option Value} {base : Heap} {f : Addr} {fd : FuncData} {Tb : List Addr} {k : Nat}
def R_law : List PyData → PyData → Prop := fun ds d => ∃ (s : List Int), ds = [iL s] ∧ s.length ≤ 63 ∧ d = .bool true
theorem e_ifI {g : Gd} {G : List Sl} {tt : TT} {ta tb : TE} {b : Bool} {x y : Int} (h : T g tt G b) (h1 : E g ta G (.int x)) (h2 : E g tb G (.int y)) : E g (tIf tt ta tb) G (.int (if b = true then x else y)) :=
  e_if h (fun z => by rw [if_pos z]; exact h1) (fun z => by rw [if_neg (by rw [z]; decide)]; exact h2)
set_option maxHeartbeats 40000000 in
theorem ok_law {C : Addr} (Fn : Fun K "law" "law" s_law f fd) (Z : Zb mg)
    (XI_BadExpression : XiOk2 P w K mg base "BadExpression" C "fault" "place") (XF_BadExpression : XfC K C) (EX : PySem.W.exmOne K (.ref C) (.ref C) = some true)
    (D_l_law_cell : Df P w K mg base 1 "_law_cell" ["script", "k"] (spD K Tb R_cell))
    (D_l_law_draws : Df P w K mg base 1 "_law_draws" ["cell", "many"] (spD K Tb R_draws))
    (D_count_of : Df P w K mg base 10 "count_of" ["expression"] (spD K Tb (R_co 9)))
    (D_parse : DfX P w K mg base 174 "parse" ["text"] (spX K Tb (R_prs C))) :
    FnOk P w K mg base CX0 175 f fd ["script"] (spD K Tb R_law) := by
  refine fn_D Fn sc_law (fun ds d h => by obtain ⟨s, rfl, _⟩ := h; rfl) fun cdv A outer s H Ek hr => ⟨_, (pss_cons (ps_set (i := 1) sc_law.nd rfl (by first | exact .inl rfl | exact .inr rfl) (pe_df D_l_law_draws hr (by first | decide | exact Nat.le_refl _ | omega) (by rfl) (pa_cons (pe_df D_l_law_cell hr (by first | decide | exact Nat.le_refl _ | omega) (by rfl) (pa_cons (pv 0) (pa_cons pe_int pa_nil))) (pa_cons pe_int pa_nil))))
      (pss_cons (ps_set (i := 2) sc_law.nd rfl (by first | exact .inl rfl | exact .inr rfl) (pe_ifExp (pt_cmpR (uEqPK K hr.units) (pe_op op_mod (pe_ix (ix_seqK K) (pv 1) pe_int (fun _ _ => rfl)) pe_int) pe_int (nomark _)) (pe_op op_mod (pe_ix (ix_seqK K) (pv 1) pe_int (fun _ _ => rfl)) pe_int) (pe_op op_mod (pe_ix (ix_seqK K) (pv 1) pe_int (fun _ _ => rfl)) pe_int)))
      (pss_cons (ps_set (i := 3) sc_law.nd rfl (by first | exact .inl rfl | exact .inr rfl) (pe_op (uAddK K) pe_int (pe_ifExp (pt_cmpR (uEqPK K hr.units) (pe_op op_mod (pe_ix (ix_seqK K) (pv 1) pe_int (fun _ _ => rfl)) pe_int) pe_int (nomark _)) (pe_op op_mod (pe_ix (ix_seqK K) (pv 1) pe_int (fun _ _ => rfl)) pe_int) (pe_op op_mod (pe_ix (ix_seqK K) (pv 1) pe_int (fun _ _ => rfl)) pe_int))))
      (pss_cons (ps_set (i := 4) sc_law.nd rfl (by first | exact .inl rfl | exact .inr rfl) (pe_ifExp (pt_cmpR uLt (pe_op op_mod (pe_ix (ix_seqK K) (pv 1) pe_int (fun _ _ => rfl)) pe_int) pe_int (nomark _)) (pe_op op_mod (pe_ix (ix_seqK K) (pv 1) pe_int (fun _ _ => rfl)) pe_int) (pe_op op_mod (pe_ix (ix_seqK K) (pv 1) pe_int (fun _ _ => rfl)) pe_int)))
      (pss_cons (ps_set (i := 5) sc_law.nd rfl (by first | exact .inl rfl | exact .inr rfl) (pe_ifExp (pt_cmpR uLt (pe_op op_mod (pe_ix (ix_seqK K) (pv 1) pe_int (fun _ _ => rfl)) pe_int) pe_int (nomark _)) (pe_op op_mod (pe_ix (ix_seqK K) (pv 1) pe_int (fun _ _ => rfl)) pe_int) (pe_op op_mod (pe_ix (ix_seqK K) (pv 1) pe_int (fun _ _ => rfl)) pe_int)))
      (pss_cons (ps_set (i := 6) sc_law.nd rfl (by first | exact .inl rfl | exact .inr rfl) (pe_op (uAddK K) pe_int (pe_ifExp (pt_cmpR uLt (pe_op op_mod (pe_ix (ix_seqK K) (pv 1) pe_int (fun _ _ => rfl)) pe_int) pe_int (nomark _)) (pe_op op_mod (pe_ix (ix_seqK K) (pv 1) pe_int (fun _ _ => rfl)) pe_int) (pe_op op_mod (pe_ix (ix_seqK K) (pv 1) pe_int (fun _ _ => rfl)) pe_int))))
      (pss_cons (ps_set (i := 7) sc_law.nd rfl (by first | exact .inl rfl | exact .inr rfl) (pe_ifExp (pt_cmpR uLt (pe_op op_mod (pe_ix (ix_seqK K) (pv 1) pe_int (fun _ _ => rfl)) pe_int) pe_int (nomark _)) (pe_op op_mod (pe_ix (ix_seqK K) (pv 1) pe_int (fun _ _ => rfl)) pe_int) (pe_op op_mod (pe_ix (ix_seqK K) (pv 1) pe_int (fun _ _ => rfl)) pe_int)))
      (pss_cons (ps_set (i := 8) sc_law.nd rfl (by first | exact .inl rfl | exact .inr rfl) (pe_ix (ix_seqK K) (pe_lst (pa_cons pe_int (pa_cons pe_int (pa_cons pe_int (pa_cons pe_int (pa_cons pe_int (pa_cons pe_int (pa_cons pe_int (pa_cons pe_int pa_nil))))))))) (pe_op op_mod (pe_ix (ix_seqK K) (pv 1) pe_int (fun _ _ => rfl)) pe_int) (fun _ _ => rfl)))
      (pss_cons (ps_set (i := 9) sc_law.nd rfl (by first | exact .inl rfl | exact .inr rfl) pe_str)
      (Evl.pss_cut (ps_if (pt_cmpR op_gt (pv 5) pe_int (nomark _)) (pss_cons (ps_set (i := 10) sc_law.nd rfl (by first | exact .inl rfl | exact .inr rfl) (pe_op (uAddK K) (pe_lst (pa_cons (pe_op (uAddK K) (pe_op (uAddK K) pe_str (pe_joinK K pe_str (pe_op op_rep (pe_lst (pa_cons pe_str pa_nil)) (pv 6)))) pe_str) pa_nil)) (pe_op op_rep (pe_lst (pa_cons pe_str pa_nil)) (pe_op op_sub (pv 5) pe_int))))
      (pss_one (ps_set (i := 9) sc_law.nd rfl (by first | exact .inl rfl | exact .inr rfl) (pe_op (uAddK K) (pe_op (uAddK K) (pe_op (uAddK K) (pv 9) pe_str) (pe_joinK K pe_str (pv 10))) pe_str)))) pss_nil)
      (pss_cons (ps_set (i := 9) sc_law.nd rfl (by first | exact .inl rfl | exact .inr rfl) (pe_op (uAddK K) (pv 9) pe_str))
      (pss_cons (ps_set (i := 11) sc_law.nd rfl (by first | exact .inl rfl | exact .inr rfl) (pe_op (uAddK K) (pe_callB (uLenK K) (by rfl) Z.len (by decide +kernel) (pa_cons (pv 9) pa_nil)) (pv 2)))
      (pss_cons (ps_set (i := 9) sc_law.nd rfl (by first | exact .inl rfl | exact .inr rfl) (pe_op (uAddK K) (pe_op (uAddK K) (pv 9) (pe_callTy uStr (by rfl) Z.str (by decide +kernel) (pa_cons (pv 8) pa_nil))) pe_str))
      (pss_cons (ps_set (i := 12) sc_law.nd rfl (by first | exact .inl rfl | exact .inr rfl) (pe_op (uAddK K) (pe_op (uAddK K) (pe_op uMul pe_str (pv 2)) (pv 9)) (pe_op uMul pe_str (pv 2))))
      (pss_cons (ps_set (i := 12) sc_law.nd rfl (by first | exact .inl rfl | exact .inr rfl) (pe_op (uAddK K) (pv 12) (pe_op uMul pe_str (pe_op op_sub (pv 3) pe_int))))
      (pss_cons (ps_set (i := 13) sc_law.nd rfl (by first | exact .inl rfl | exact .inr rfl) (pe_ifExp (pt_cmpR op_gt (pv 7) pe_int (nomark _)) (pe_op (uAddK K) (pe_op (uAddK K) pe_str (pe_joinK K pe_str (pe_op op_rep (pe_lst (pa_cons pe_str pa_nil)) (pv 7)))) pe_str) pe_str))
      (Evl.pss_cut (ps_if (pt_cmpR op_gt (pv 7) pe_int (nomark _)) (pss_cons (ps_set (i := 12) sc_law.nd rfl (by first | exact .inl rfl | exact .inr rfl) (pe_op (uAddK K) (pe_op (uAddK K) (pv 13) (pv 12)) pe_str))
      (pss_one (ps_set (i := 11) sc_law.nd rfl (by first | exact .inl rfl | exact .inr rfl) (pe_op (uAddK K) (pv 11) (pe_callB (uLenK K) (by rfl) Z.len (by decide +kernel) (pa_cons (pv 13) pa_nil)))))) pss_nil)
      (pss_cons (ps_set (i := 12) sc_law.nd rfl (by first | exact .inl rfl | exact .inr rfl) (pe_op (uAddK K) (pv 12) (pe_op uMul pe_str (pv 4))))
      (pss_cons (ps_set (i := 14) sc_law.nd rfl (by first | exact .inl rfl | exact .inr rfl) (pe_op (uAddK K) (pe_op (uAddK K) (pe_op op_sub (pv 3) pe_int) (pv 4)) (pe_ifExp (pt_cmpR op_gt (pv 7) pe_int (nomark _)) pe_int pe_int)))
      (pss_cons (ps_set (i := 15) sc_law.nd rfl (by first | exact .inl rfl | exact .inr rfl) pe_non)
      (pss_cons (ps_set (i := 16) sc_law.nd rfl (by first | exact .inl rfl | exact .inr rfl) pe_int)
      (pss_cons (ps_for PassesOwn.never rfl (pi_range1 (by rfl) Z.range (pa_cons (pe_callB (uLenK K) (by rfl) Z.len (by decide +kernel) (pa_cons (pv 12) pa_nil)) pa_nil)) (pg_name (i := 17) sc_law.nd rfl (by first | exact .inl rfl | exact .inr rfl)) (pss_one (ps_if (pt_cmpR (uEqPK K hr.units) (pe_ix (ix_seqK K) (pv 12) (pv 17) (fun _ _ => rfl)) pe_str (nomark _)) (Evl.pss_cut (ps_if (PW.pt (pw_and (pt_cmpR op_ge (pv 16) pe_int (nomark _)) (pw_and1 (pt_cmpR uIsN (pv 15) pe_non (nomark _))))) (pss_one (ps_set (i := 15) sc_law.nd rfl (by first | exact .inl rfl | exact .inr rfl) (pe_tup (pa_cons pe_str (pa_cons (pv 17) pa_nil))))) pss_nil)
      (pss_one (ps_set (i := 16) sc_law.nd rfl (by first | exact .inl rfl | exact .inr rfl) (pe_op (uAddK K) (pv 16) pe_int)))) (pss_one (ps_if (pt_cmpR (uEqPK K hr.units) (pe_ix (ix_seqK K) (pv 12) (pv 17) (fun _ _ => rfl)) pe_str (nomark _)) (pss_one (ps_set (i := 16) sc_law.nd rfl (by first | exact .inl rfl | exact .inr rfl) (pe_op op_sub (pv 16) pe_int))) pss_nil)))))
      (pss_cons (ps_set (i := 18) sc_law.nd rfl (by first | exact .inl rfl | exact .inr rfl) (pe_or (pe_cmpR op_gt (pv 3) pe_int (nomark _)) (pe_or (pe_cmpR op_gt (pv 14) pe_int (nomark _)) (pe_or (pe_cmpR op_gt (pv 5) pe_int (nomark _)) (pe_or (pe_cmpR op_gt (pv 7) pe_int (nomark _)) (pe_one (pe_and (pe_cmpR op_gt (pv 5) pe_int (nomark _)) (pe_one (pe_cmpR op_gt (pv 6) pe_int (nomark _))))))))))
      (Evl.pss_cut (ps_if (PW.pt (pw_and (pt_cmpR uIsN (pv 15) pe_non (nomark _)) (pw_and1 (pt_truthK K (pv 18) (by intro _; rfl))))) (pss_one (ps_set (i := 15) sc_law.nd rfl (by first | exact .inl rfl | exact .inr rfl) (pe_tup (pa_cons pe_str (pa_cons (pe_callB (uLenK K) (by rfl) Z.len (by decide +kernel) (pa_cons (pv 12) pa_nil)) pa_nil))))) pss_nil)
      (Evl.pss_cut (ps_if (PW.pt (pw_and (pt_cmpR uIsN (pv 15) pe_non (nomark _)) (pw_and1 (PW.pt (pw_or (pt_cmpR uLt (pv 8) pe_int (nomark _)) (pw_or1 (pt_cmpR op_gt (pv 8) pe_int (nomark _)))))))) (pss_one (ps_set (i := 15) sc_law.nd rfl (by first | exact .inl rfl | exact .inr rfl) (pe_tup (pa_cons pe_str (pa_cons (pv 11) pa_nil))))) pss_nil)
      (Evl.pss_cut (ps_if (pt_cmpR op_gt (pe_callB (uLenK K) (by rfl) Z.len (by decide +kernel) (pa_cons (pv 12) pa_nil)) pe_int (nomark _)) (pss_one (ps_set (i := 15) sc_law.nd rfl (by first | exact .inl rfl | exact .inr rfl) (pe_tup (pa_cons pe_str (pa_cons pe_int pa_nil))))) pss_nil)
      (pss_cons (ps_try_as (i := 20) (Wout := fun _ _ _ _ => False) rfl rfl sc_law.nd rfl rfl (xi_names2 XI_BadExpression (by rfl)) takes0 (fun W pn xe tk _ => (pss_one (ps_set (i := 19) sc_law.nd rfl (by first | exact .inl rfl | exact .inr rfl) (pe_dfX (W := W) D_parse hr (by first | decide | exact Nat.le_refl _ | omega) (by rfl) tk (pa_cons (pv 12) pa_nil))))) (fun a oe cls d pn hz hf => (pss_one (ps_ret (pe_cmpR (uEqPK K hr.units) (pe_tup (pa_cons (pe_xf XF_BadExpression XI_BadExpression.noF hz hf (pv 20)) (pa_cons (pe_xf XF_BadExpression XI_BadExpression.noH hz hf (pv 20)) pa_nil))) (pv 15) (nomark _))))))
      (pss_one (ps_ret (pe_and (pe_cmpR uIsN (pv 15) pe_non (nomark _)) (pe_one (pe_cmpR (uEqPK K hr.units) (pe_df D_count_of hr (by first | decide | exact Nat.le_refl _ | omega) (by rfl) (pa_cons (pv 19) pa_nil)) (pe_tup (pa_cons (pv 3) (pa_cons (pv 14) pa_nil))) (nomark _))))))))))))))))))))))))))))))))),  fun ds d F0 H0 Q r rt => ?_⟩
  obtain ⟨sc, rfl, hl, rfl⟩ := r
  have rd : R_draws [.int (cellF sc 0), .int ((10 : Nat) : Int)] (.list ((draws (cellF sc 0) 10).map .int)) := ⟨cellF sc 0, 10, rfl, by decide, rfl⟩
  have hD := draws_len (cellF sc 0) 10
  have cell : ∀ (i : Nat) {G0 : List Sl} {Fl : Hp}, i ≤ 60 → E (⟨K, Tb, F0, H0, Fl⟩ : Gd) (tCall (spD K Tb R_cell) [] E0 (tCons (tVar 0) (tCons (tC (.int (i : Nat))) tNil))) (.fz (iL sc) :: G0) (.int (cellF sc i)) := fun i G0 Fl hi => e_call (R := R_cell) (Ek := E0) (ds := [iL sc, .int (i : Nat)]) (a_cons (e_var rfl) (a_cons e_int a_nil)) ⟨sc, i, rfl, by omega, rfl⟩
  generalize draws (cellF sc 0) 10 = D at hD rd ⊢
  refine q_asg (d := iL D) (e_call (ds := [.int (cellF sc 0), .int ((10 : Nat) : Int)]) (a_cons (cell 0 (by decide)) (a_cons e_int a_nil)) rd) ?_
  have dr : ∀ (i : Nat) {G0 : List Sl} {Fl : Hp}, i < 10 → E (⟨K, Tb, F0, H0, Fl⟩ : Gd) (tOp (rIx K) (tVar 1) (tC (.int (i : Nat)))) (.fz (iL sc) :: .fz (iL D) :: G0) (.int (itI D i)) := fun i G0 Fl hi => e_op (x := iL D) (e_var rfl) e_int (ix_l (at_int (by omega) (by omega)))
  -- the numbers
  obtain ⟨dp, edp, hdp⟩ := nat_of (pick (b := decide (itI D (1 : Nat) % 2 = 0)) (md2 (itI D (0 : Nat)) 25 25 (by decide) (by decide)) (md2 (itI D (0 : Nat)) 3 25 (by decide) (by decide)))
  obtain ⟨s0, es, hs⟩ := nat_of (pick (b := decide (itI D (1 : Nat) % 3 = 0)) (md2 (itI D (2 : Nat)) 9 9 (by decide) (by decide)) (md2 (itI D (2 : Nat)) 3 9 (by decide) (by decide)))
  obtain ⟨q, eq, hq⟩ := nat_of (pick (b := decide (itI D (1 : Nat) % 5 < 2)) (md2 (itI D (3 : Nat)) 9 9 (by decide) (by decide)) (md2 (itI D (3 : Nat)) 3 9 (by decide) (by decide)))
  obtain ⟨m, em, hm⟩ := nat_of (pick (b := decide (itI D (1 : Nat) % 7 < 2)) (md2 (itI D (4 : Nat)) 9 9 (by decide) (by decide)) (md2 (itI D (4 : Nat)) 3 9 (by decide) (by decide)))
  obtain ⟨v0, ev, hv⟩ := nat_of (pick (b := decide (itI D (1 : Nat) % 11 < 4)) (md2 (itI D (5 : Nat)) 9 9 (by decide) (by decide)) (md2 (itI D (5 : Nat)) 3 9 (by decide) (by decide)))
  obtain ⟨nm, en, hnm⟩ := nat_of (pick (b := decide (itI D (1 : Nat) % 13 < 4)) (md2 (itI D (6 : Nat)) 9 9 (by decide) (by decide)) (md2 (itI D (6 : Nat)) 3 9 (by decide) (by decide)))
  have m8 := md (itI D (7 : Nat)) 8 (by decide)
  obtain ⟨sp, esp, sp0, sp1⟩ := sp_mem (itI D (7 : Nat) % 8).toNat (by omega)
  have fit : sp.natAbs.log2 < 1920 := log_fit (by omega) (by omega)
  refine q_asg (d := .int (dp : Nat)) (by rw [edp]; exact e_ifI (t_test (b_op (E.b (e_op (dr 1 (by decide)) e_int (mod_i (by decide)))) (E.b e_int) eqP_i rfl)) (e_op (dr 0 (by decide)) e_int (mod_i (by decide))) (e_op (dr 0 (by decide)) e_int (mod_i (by decide)))) ?_
  refine q_asg (d := .int ((1 + s0 : Nat) : Int)) (by rw [show ((1 + s0 : Nat) : Int) = 1 + (s0 : Int) by omega, es]; exact e_op e_int (e_ifI (t_test (b_op (E.b (e_op (dr 1 (by decide)) e_int (mod_i (by decide)))) (E.b e_int) eqP_i rfl)) (e_op (dr 2 (by decide)) e_int (mod_i (by decide))) (e_op (dr 2 (by decide)) e_int (mod_i (by decide)))) add_i) ?_
  refine q_asg (d := .int (q : Nat)) (by rw [eq]; exact e_ifI (t_test (b_op (E.b (e_op (dr 1 (by decide)) e_int (mod_i (by decide)))) (E.b e_int) lt_i rfl)) (e_op (dr 3 (by decide)) e_int (mod_i (by decide))) (e_op (dr 3 (by decide)) e_int (mod_i (by decide)))) ?_
  refine q_asg (d := .int (m : Nat)) (by rw [em]; exact e_ifI (t_test (b_op (E.b (e_op (dr 1 (by decide)) e_int (mod_i (by decide)))) (E.b e_int) lt_i rfl)) (e_op (dr 4 (by decide)) e_int (mod_i (by decide))) (e_op (dr 4 (by decide)) e_int (mod_i (by decide)))) ?_
  refine q_asg (d := .int ((1 + v0 : Nat) : Int)) (by rw [show ((1 + v0 : Nat) : Int) = 1 + (v0 : Int) by omega, ev]; exact e_op e_int (e_ifI (t_test (b_op (E.b (e_op (dr 1 (by decide)) e_int (mod_i (by decide)))) (E.b e_int) lt_i rfl)) (e_op (dr 5 (by decide)) e_int (mod_i (by decide))) (e_op (dr 5 (by decide)) e_int (mod_i (by decide)))) add_i) ?_
  refine q_asg (d := .int (nm : Nat)) (by rw [en]; exact e_ifI (t_test (b_op (E.b (e_op (dr 1 (by decide)) e_int (mod_i (by decide)))) (E.b e_int) lt_i rfl)) (e_op (dr 6 (by decide)) e_int (mod_i (by decide))) (e_op (dr 6 (by decide)) e_int (mod_i (by decide)))) ?_
  have spx : atI (SPs.map PyData.int) (itI D (7 : Nat) % 8) = some (.int sp) := by
    rw [at_nat m8.1 (by rw [List.length_map]; show _ < 8; omega), List.getElem?_map, esp]; rfl
  refine q_asg (d := .int sp) (e_op (x := .list (SPs.map .int)) (EL.e (el_lst (ds := SPs.map .int) (a_cons e_int (a_cons e_int (a_cons e_int (a_cons e_int (a_cons e_int (a_cons e_int (a_cons e_int (a_cons e_int a_nil)))))))) (by decide))) (e_op (dr 7 (by decide)) e_int (mod_i (by decide))) (ix_l spx)) ?_
  clear spx esp m8 edp es eq em ev en
  generalize hsE : 1 + s0 = s
  generalize hvE : 1 + v0 = v
  have s1 : 0 < s := by omega
  have v1 : 0 < v := by omega
  have sN : s ≤ 9 := by omega
  have vN : v ≤ 9 := by omega
  have mN : m ≤ 9 := by omega
  have nN : nm ≤ 9 := by omega
  have qN : q ≤ 9 := by omega
  have dN : dp ≤ 30 := by omega
  obtain ⟨z2, z0, z1, zz2, z3⟩ := tx3_le (sp := sp) dN sN qN mN vN nN fit
  have zsel := selZ_le vN mN
  have zsl := selZ_len (m := m) (v := v)
  have zin := inS_len vN
  have zrow := row_len vN mN
  have zhd := hdS_le nN
  clear dr cell rd hD
  show S _ _ _ [.fz (iL sc), .fz (iL D), .fz (.int (dp : Nat)), .fz (.int (s : Nat)), .fz (.int (q : Nat)), .fz (.int (m : Nat)), .fz (.int (v : Nat)), .fz (.int (nm : Nat)), .fz (.int sp), .un, .un, .un, .un, .un, .un, .un, .un, .un, .un, .un, .un]
  refine q_asg (d := .str "increase(a") e_str ?_
  refine s_cut [.fz (iL sc), .fz (iL D), .fz (.int (dp : Nat)), .fz (.int (s : Nat)), .fz (.int (q : Nat)), .fz (.int (m : Nat)), .fz (.int (v : Nat)), .fz (.int (nm : Nat)), .fz (.int sp), .fz (.str (selZ m v)), .un, .un, .un, .un, .un, .un, .un, .un, .un, .un, .un] (s_if (b := decide (((m : Nat) : Int) > 0)) (t_test (b_op (E.b (e_var rfl)) (E.b e_int) gt_i rfl)) (fun z => ?_) fun z => s_next (n_end1 ?_)) ?_
  · have z := of_decide_eq_true z
    have eI : inS v = ("l in (" : Str) ++ Txt.join ", " (List.replicate v "\"v\"") ++ ")" := rfl
    refine q_asg (d := .list ((rowS m v).map .str)) ?_ ?_
    · have er : (rowS m v).map PyData.str = [.str (inS v)] ++ List.replicate (((m : Nat) : Int) - 1).toNat (.str "l=\"v\"") := by
        unfold rowS
        rw [List.map_cons, List.map_replicate, show (((m : Nat) : Int) - 1).toNat = m - 1 by omega]; rfl
      rw [er]
      refine EL.e (el_op (EL.e (el_lst (ds := [.str (inS v)]) (a_cons ?_ a_nil) (Nat.le_of_ble_eq_true rfl))) (EL.e (el_rep (el_lst (ds := [.str "l=\"v\""]) (a_cons e_str a_nil) (by decide)) (e_op (e_var rfl) e_int sub_i) (by omega) (by omega))) (add_l (by rw [List.length_replicate, List.length_singleton]; omega)))
      have hj := jn_rep (z := ", ") (x := "\"v\"") (n := v)
      rw [l_lits.2.1, l_lits.2.2.1] at hj
      rw [eI]
      refine (es_cat (es_cat (es_lit (n := 6) (by decide)) (es_e (n := 50) (e_joinL (ys := List.replicate v ("\"v\"" : Str)) e_str (E.b (EL.e ?_)) ?_) (by omega)) (by decide)) (es_lit (n := 1) (by decide)) (by decide)).1
      · have e2 : (List.replicate v ("\"v\"" : Str)).map PyData.str = List.replicate (((v : Nat) : Int)).toNat (.str "\"v\"") := by rw [List.map_replicate, Int.toNat_natCast]
        rw [e2]
        exact el_rep (el_lst (ds := [.str "\"v\""]) (a_cons e_str a_nil) (by decide)) (e_var rfl) (by omega) (by omega)
      · exact Nat.le_trans (jn_le (k := 9) (B := 3) (by rw [List.length_replicate]; exact vN) fun y hy => by rw [List.eq_of_mem_replicate hy, l_lits.2.1]; decide) (by rw [l_lits.2.2.1]; decide)
    have eS : selZ m v = ("increase(a" : Str) ++ "{" ++ Txt.join ", " (rowS m v) ++ "}" := if_pos (by omega)
    rw [eS]
    refine s_asg (es_cat (es_cat (es_cat (es_e (n := 10) (e_var rfl) (by decide)) (es_lit (n := 1) (by decide)) (by decide)) (es_e (n := 1000) (e_joinL (ys := rowS m v) e_str (E.b (e_var rfl)) ?_) zrow) (by decide)) (es_lit (n := 1) (by decide)) (by decide)).1 (n_end1 ?_)
    · exact Nat.le_trans (jn_le (k := 10) (B := 60) (by unfold rowS; rw [List.length_cons, List.length_replicate]; omega) fun y hy => by
        rcases List.mem_cons.mp hy with rfl | hy
        · exact zin
        · rw [List.eq_of_mem_replicate hy, l_lits.2.2.2.2.1]; decide) (by rw [l_lits.2.2.1]; decide)
    · exact .keep rfl (.keep rfl (.keep rfl (.keep rfl (.keep rfl (.keep rfl (.keep rfl (.keep rfl (.keep rfl (.keep rfl (.drop (.drop (.drop (.drop (.drop (.drop (.drop (.drop (.drop (.drop (.drop .nil))))))))))))))))))))
  · have z := of_decide_eq_false z
    rw [show selZ m v = "increase(a" from if_neg (by omega)]
    exact Wk.refl _
  refine q_asg (d := .str (selZ m v ++ "[")) (es_cat (es_e (e_var rfl) zsel) (es_lit (n := 1) (by decide)) (by decide)).1 ?_
  have l1 : (selZ m v ++ "[").length = (selZ m v).length + 1 := app_len _ _
  refine q_asg (d := .int (((selZ m v ++ "[").length : Int) + (dp : Nat))) (e_op (b_cb (ab_cons (E.b (e_var rfl)) ab_nil) (len_s (by omega)) rfl) (e_var rfl) add_i) ?_
  refine q_asg (d := .str (in2 m v sp)) (es_cat (es_cat (es_e (n := 1200) (e_var rfl) (by omega)) (es_e (b_cb (ab_cons (E.b (e_var rfl)) ab_nil) (str_i fit) rfl) (tS_len fit)) (by decide)) (es_lit (n := 2) (by decide)) (by decide)).1 ?_
  refine q_asg (d := .str (tx0 dp m v sp)) (es_cat (es_cat (es_e (n := 100) (e_op e_str (e_var rfl) (mul_s (by omega) (by omega) (by decide))) (by rw [mul_len, l_lits.2.2.2.2.2.2.2.1]; omega)) (es_e (e_var rfl) z2) (by decide)) (es_e (n := 100) (e_op e_str (e_var rfl) (mul_s (by omega) (by omega) (by decide))) (by rw [mul_len, l_lits.2.2.2.1]; omega)) (by decide)).1 ?_
  refine q_asg (d := .str (tx1 dp s m v sp)) (by
    unfold tx1
    rw [show ((s - 1 : Nat) : Int) = ((s : Nat) : Int) - 1 by omega]
    exact (es_cat (es_e (e_var rfl) z0) (es_e (n := 100) (e_op e_str (e_op (e_var rfl) e_int sub_i) (mul_s (by omega) (by omega) (by decide))) (by rw [show ((s : Nat) : Int) - 1 = ((s - 1 : Nat) : Int) by omega, mul_len, l_lits.2.2.2.2.2.2.2.2.1]; omega)) (by decide)).1) ?_
  generalize in2 m v sp = t2
  generalize hpl : ((selZ m v ++ "[").length : Int) + (dp : Nat) = pl1
  show S _ _ _ [.fz (iL sc), .fz (iL D), .fz (.int (dp : Nat)), .fz (.int (s : Nat)), .fz (.int (q : Nat)), .fz (.int (m : Nat)), .fz (.int (v : Nat)), .fz (.int (nm : Nat)), .fz (.int sp), .fz (.str t2), .un, .fz (.int pl1), .fz (.str (tx1 dp s m v sp)), .un, .un, .un, .un, .un, .un, .un, .un]
  refine q_asg (d := .str (if 0 < nm then hdS nm else "")) (e_if (b := decide (((nm : Nat) : Int) > 0)) (t_test (b_op (E.b (e_var rfl)) (E.b e_int) gt_i rfl)) (fun z => ?_) fun z => ?_) ?_
  · have z := of_decide_eq_true z
    rw [if_pos (by omega)]
    have hj := jn_rep (z := ", ") (x := "n") (n := nm)
    rw [l_lits.2.2.2.2.2.2.1, l_lits.2.2.1] at hj
    refine (es_cat (es_cat (es_lit (n := 8) (by decide)) (es_e (n := 50) (e_joinL (ys := List.replicate nm ("n" : Str)) e_str (E.b (EL.e ?_)) ?_) (by omega)) (by decide)) (es_lit (n := 3) (by decide)) (by decide)).1
    · have e2 : (List.replicate nm ("n" : Str)).map PyData.str = List.replicate (((nm : Nat) : Int)).toNat (.str "n") := by rw [List.map_replicate, Int.toNat_natCast]
      rw [e2]
      exact el_rep (el_lst (ds := [.str "n"]) (a_cons e_str a_nil) (by decide)) (e_var rfl) (by omega) (by omega)
    · exact Nat.le_trans (jn_le (k := 9) (B := 3) (by rw [List.length_replicate]; exact nN) fun y hy => by rw [List.eq_of_mem_replicate hy, l_lits.2.2.2.2.2.2.1]; decide) (by rw [l_lits.2.2.1]; decide)
  · have z := of_decide_eq_false z
    rw [if_neg (by omega)]
    exact e_str
  refine s_cut [.fz (iL sc), .fz (iL D), .fz (.int (dp : Nat)), .fz (.int (s : Nat)), .fz (.int (q : Nat)), .fz (.int (m : Nat)), .fz (.int (v : Nat)), .fz (.int (nm : Nat)), .fz (.int sp), .un, .un, .fz (.int (spL dp m v nm : Nat)), .fz (.str (tx2 dp s m v nm sp)), .un, .un, .un, .un, .un, .un, .un, .un] (s_if (b := decide (((nm : Nat) : Int) > 0)) (t_test (b_op (E.b (e_var rfl)) (E.b e_int) gt_i rfl)) (fun z => ?_) fun z => s_next (n_end1 ?_)) ?_
  · have z := of_decide_eq_true z
    have e2 : tx2 dp s m v nm sp = hdS nm ++ tx1 dp s m v sp ++ ")" := if_pos (by omega)
    have e3 : (if 0 < nm then hdS nm else ("" : Str)) = hdS nm := if_pos (by omega)
    rw [e2, e3]
    have hh := hdS_len (nm := nm) (by omega)
    refine q_asg (d := .str (hdS nm ++ tx1 dp s m v sp ++ ")")) (es_cat (es_cat (es_e (e_var rfl) zhd) (es_e (e_var rfl) z1) (by decide)) (es_lit (n := 1) (by decide)) (by decide)).1 ?_
    have ep : ((spL dp m v nm : Nat) : Int) = pl1 + ((hdS nm).length : Nat) := by
      unfold spL
      omega
    rw [ep]
    refine s_asg (e_op (e_var rfl) (b_cb (ab_cons (E.b (e_var rfl)) ab_nil) (len_s (by omega)) rfl) add_i) (n_end1 ?_)
    exact .keep rfl (.keep rfl (.keep rfl (.keep rfl (.keep rfl (.keep rfl (.keep rfl (.keep rfl (.keep rfl (.drop (.drop (.keep rfl (.keep rfl (.drop (.drop (.drop (.drop (.drop (.drop (.drop (.drop .nil))))))))))))))))))))
  · have z := of_decide_eq_false z
    have e2 : tx2 dp s m v nm sp = tx1 dp s m v sp := if_neg (by omega)
    have hh : hdL nm = 0 := if_neg (by omega)
    have ep : ((spL dp m v nm : Nat) : Int) = pl1 := by
      unfold spL
      omega
    rw [e2, ep]
    exact .keep rfl (.keep rfl (.keep rfl (.keep rfl (.keep rfl (.keep rfl (.keep rfl (.keep rfl (.keep rfl (.drop (.drop (.keep rfl (.keep rfl (.drop (.drop (.drop (.drop (.drop (.drop (.drop (.drop .nil))))))))))))))))))))
  refine q_asg (d := .str (tx3 dp s q m v nm sp)) (es_cat (es_e (e_var rfl) zz2) (es_e (n := 100) (e_op e_str (e_var rfl) (mul_s (by omega) (by omega) (by decide))) (by rw [mul_len, l_lits.2.2.2.2.2.2.2.2.2]; omega)) (by decide)).1 ?_
  refine q_asg (d := .int ((s - 1 + q + (if 0 < nm then 1 else 0) : Nat) : Int)) (by
    rw [show ((s - 1 + q + (if 0 < nm then 1 else 0) : Nat) : Int) = (((s : Nat) : Int) - 1 + (q : Nat)) + (if decide (((nm : Nat) : Int) > 0) = true then 1 else 0) by
      by_cases h : 0 < nm
      · rw [if_pos h, if_pos (decide_eq_true (by omega))]; omega
      · rw [if_neg h, if_neg (by rw [decide_eq_false (by omega)]; decide)]; omega]
    exact e_op (e_op (e_op (e_var rfl) e_int sub_i) (e_var rfl) add_i) (e_ifI (t_test (b_op (E.b (e_var rfl)) (E.b e_int) gt_i rfl)) e_int e_int) add_i) ?_
  obtain ⟨par, nmany⟩ := par_due (C := C) (dp := dp) (q := q) (m := m) (nm := nm) (sp := sp) s1 v1 sp0 sp1 dN ⟨by omega, by omega⟩
  have cn := tree_cn (dp := dp) (q := q) (m := m) (v := v) (nm := nm) (sp := sp) s1
  have mbE : manyB s q m v nm = (decide (6 < s) || (decide (8 < s - 1 + q + (if 0 < nm then 1 else 0)) || (decide (6 < m) || (decide (0 < m) && decide (6 < v)) || decide (6 < nm)))) := rfl
  generalize hops : s - 1 + q + (if 0 < nm then 1 else 0) = ops at cn mbE ⊢
  generalize erY (treeY dp s q m v nm sp) = T at cn par
  generalize spL dp m v nm = pl at par nmany ⊢
  generalize tx3 dp s q m v nm sp = t at z3 par nmany ⊢
  generalize manyB s q m v nm = mb at mbE par nmany
  refine q_asg (d := .none) e_non ?_
  refine q_asg (d := .int 0) e_int ?_
  show S _ _ _ [.fz (iL sc), .fz (iL D), .fz (.int (dp : Nat)), .fz (.int (s : Nat)), .fz (.int (q : Nat)), .fz (.int (m : Nat)), .fz (.int (v : Nat)), .fz (.int (nm : Nat)), .fz (.int sp), .un, .un, .fz (.int (pl : Nat)), .fz (.str t), .un, .fz (.int (ops : Nat)), .fz .none, .fz (.int 0), .un, .un, .un, .un]
  have tl := cps_len t
  refine q_for (α := Option Nat × Int) (fun _ a => [.fz (iL sc), .fz (iL D), .fz (.int (dp : Nat)), .fz (.int (s : Nat)), .fz (.int (q : Nat)), .fz (.int (m : Nat)), .fz (.int (v : Nat)), .fz (.int (nm : Nat)), .fz (.int sp), .un, .un, .fz (.int (pl : Nat)), .fz (.str t), .un, .fz (.int (ops : Nat)), .fz (duT (dpD a.1)), .fz (.int a.2), .un, .un, .un, .un]) (fun i a => lpG none 0 0 t.cps.toList = lpG a.1 a.2 i (t.cps.toList.drop i)) (it_rng1 (n := (t.length : Int)) (a_cons (b_cb (ab_cons (E.b (e_var rfl)) ab_nil) (len_s (by omega)) rfl) a_nil) (by omega) (by omega)) (none, 0) rfl (Wk.refl _) (fun F1 i a d hd p => ?_) fun a p => ?_
  · obtain ⟨du, op⟩ := a
    obtain ⟨hi, rfl⟩ := rngD_get hd
    rw [Int.toNat_natCast] at hi
    have hi2 : i < t.cps.toList.length := by omega
    have hx : t.cps.toList[i]? = some (t.cps.toList[i]'hi2) := List.getElem?_eq_getElem hi2
    have hdr : t.cps.toList.drop i = t.cps.toList[i]'hi2 :: t.cps.toList.drop (i + 1) := List.drop_eq_getElem_cons hi2
    generalize t.cps.toList[i]'hi2 = c at hx hdr
    have p : lpG none 0 0 t.cps.toList = lpG du op i (t.cps.toList.drop i) := p
    rw [hdr, lpG] at p
    rw [Int.zero_add]
    refine ⟨_, _, g_name, ?_⟩
    have ax : atI t.cps.toList (i : Nat) = some c := by rw [at_n0 hi2]; exact hx
    have chT : ∀ {G0 : Nat → List Sl} {x : Str} {y : Nat} {F2 : Hp} {du op}, ((⟨#[c]⟩ : Str) = x ↔ c = y) → DW.T (⟨K, Tb, F0, H0, F2⟩ : Gd) (tTest (tOp (rEqP K) (tOp (rIx K) (tVar 12) (tVar 17)) (tC (.str x)))) [.fz (iL sc), .fz (iL D), .fz (.int (dp : Nat)), .fz (.int (s : Nat)), .fz (.int (q : Nat)), .fz (.int (m : Nat)), .fz (.int (v : Nat)), .fz (.int (nm : Nat)), .fz (.int sp), .un, .un, .fz (.int (pl : Nat)), .fz (.str t), .un, .fz (.int (ops : Nat)), .fz (duT (dpD du)), .fz (.int op), .fz (.int (i : Nat)), .un, .un, .un] (decide (c = y)) := fun h => by
      rw [show decide (c = _) = decide ((⟨#[c]⟩ : Str) = _) from decide_eq_decide.mpr h.symm]
      exact t_test (b_op (E.b (e_op (x := .str t) (e_var rfl) (e_var rfl) (ix_s (by omega) ax))) (E.b e_str) eqP_s rfl)
    refine s_if (b := decide (c = 40)) (chT (G0 := fun _ => []) (ch_eq c).1) (fun z => ?_) fun z => ?_
    · have z := of_decide_eq_true z
      rw [if_pos z] at p
      refine s_cut [.fz (iL sc), .fz (iL D), .fz (.int (dp : Nat)), .fz (.int (s : Nat)), .fz (.int (q : Nat)), .fz (.int (m : Nat)), .fz (.int (v : Nat)), .fz (.int (nm : Nat)), .fz (.int sp), .un, .un, .fz (.int (pl : Nat)), .fz (.str t), .un, .fz (.int (ops : Nat)), .fz (duT (dpD (if 20 ≤ op ∧ du = none then some i else du))), .fz (.int op), .un, .un, .un, .un] (s_if (b := decide (20 ≤ op) && isND (duT (dpD du))) (t_and (t_test (b_op (E.b (e_var rfl)) (E.b e_int) ge_i rfl)) fun _ => t_test (b_op (E.b (e_var rfl)) (E.b e_non) is_n rfl)) (fun y => ?_) fun y => s_next (n_end1 ?_)) ?_
      · obtain ⟨y1, y2⟩ := Bool.and_eq_true_iff.mp y
        have hn : du = none := by cases du with
          | none => rfl
          | some n => cases y2
        rw [if_pos ⟨of_decide_eq_true y1, hn⟩]
        refine s_asg (d := .tuple [.str "deep", .int (i : Nat)]) (e_tup (ds := [.str "deep", .int (i : Nat)]) (a_cons e_str (a_cons (e_var rfl) a_nil)) (Nat.le_of_ble_eq_true rfl)) (n_end1 ?_)
        exact .keep rfl (.keep rfl (.keep rfl (.keep rfl (.keep rfl (.keep rfl (.keep rfl (.keep rfl (.keep rfl (.drop (.drop (.keep rfl (.keep rfl (.drop (.keep rfl (.keep rfl (.keep rfl (.drop (.drop (.drop (.drop .nil))))))))))))))))))))
      · rw [if_neg (fun h => by
          rw [decide_eq_true h.1, h.2] at y
          cases y)]
        exact .keep rfl (.keep rfl (.keep rfl (.keep rfl (.keep rfl (.keep rfl (.keep rfl (.keep rfl (.keep rfl (.drop (.drop (.keep rfl (.keep rfl (.drop (.keep rfl (.keep rfl (.keep rfl (.drop (.drop (.drop (.drop .nil))))))))))))))))))))
      exact s_asg (d := .int (op + 1)) (e_op (e_var rfl) e_int add_i) (n_end (_, op + 1) p (Wk.refl _))
    · have z := of_decide_eq_false z
      rw [if_neg z] at p
      refine s_if (b := decide (c = 41)) (chT (G0 := fun _ => []) (ch_eq c).2) (fun y => ?_) fun y => ?_
      · rw [if_pos (of_decide_eq_true y)] at p
        refine s_asg (d := .int (op - 1)) (e_op (e_var rfl) e_int sub_i) (n_end (du, op - 1) p ?_)
        exact .keep rfl (.keep rfl (.keep rfl (.keep rfl (.keep rfl (.keep rfl (.keep rfl (.keep rfl (.keep rfl (.drop (.drop (.keep rfl (.keep rfl (.drop (.keep rfl (.keep rfl (.keep rfl (.drop (.drop (.drop (.drop .nil))))))))))))))))))))
      · rw [if_neg (of_decide_eq_false y)] at p
        refine s_next (n_end (du, op) p ?_)
        exact .keep rfl (.keep rfl (.keep rfl (.keep rfl (.keep rfl (.keep rfl (.keep rfl (.keep rfl (.keep rfl (.drop (.drop (.keep rfl (.keep rfl (.drop (.keep rfl (.keep rfl (.keep rfl (.drop (.drop (.drop (.drop .nil))))))))))))))))))))
  obtain ⟨du, op⟩ := a
  have p : lpG none 0 0 t.cps.toList = lpG du op (rngD 0 ((t.length : Int)).toNat).length (t.cps.toList.drop (rngD 0 ((t.length : Int)).toNat).length) := p
  rw [rngD_len, Int.toNat_natCast] at p
  have hdu := lp_end p (by omega)
  rw [← hdu] at par nmany
  clear p hdu
  show S _ _ _ [.fz (iL sc), .fz (iL D), .fz (.int (dp : Nat)), .fz (.int (s : Nat)), .fz (.int (q : Nat)), .fz (.int (m : Nat)), .fz (.int (v : Nat)), .fz (.int (nm : Nat)), .fz (.int sp), .un, .un, .fz (.int (pl : Nat)), .fz (.str t), .un, .fz (.int (ops : Nat)), .fz (duT (dpD du)), .fz (.int op), .un, .un, .un, .un]
  have gt6 : ∀ (a b : Nat) {i : Nat} {G0 : List Sl}, G0[i]? = some (.fz (.int (a : Nat))) → E (⟨K, Tb, F0, H0, F0⟩ : Gd) (tOp (rI0 fun i j => .bl (decide (j < i))) (tVar i) (tC (.int (b : Nat)))) G0 (.bool (decide (b < a))) := fun a b i G0 h => by
    rw [show decide (b < a) = decide (((b : Nat) : Int) < (a : Nat)) from decide_eq_decide.mpr (by omega)]
    exact b_op (E.b (e_var h)) (E.b e_int) gt_i rfl
  refine q_asg (d := .bool mb) (by
    rw [mbE, ← mb_eq]
    exact e_orV (gt6 s 6 rfl) fun _ => e_orV (gt6 ops 8 rfl) fun _ => e_orV (gt6 m 6 rfl) fun _ => e_orV (gt6 nm 6 rfl) fun _ => e_andV (gt6 m 0 rfl) fun _ => gt6 v 6 rfl) ?_
  refine s_cut [.fz (iL sc), .fz (iL D), .fz (.int (dp : Nat)), .fz (.int (s : Nat)), .fz (.int (q : Nat)), .fz (.int (m : Nat)), .fz (.int (v : Nat)), .fz (.int (nm : Nat)), .fz (.int sp), .un, .un, .fz (.int (pl : Nat)), .fz (.str t), .un, .fz (.int (ops : Nat)), .fz (duT (due2 du mb t.length)), .un, .un, .un, .un, .un] (s_if (b := (dpD du).isNone && mb) (t_and (by rw [← du_n]; exact t_test (b_op (E.b (e_var rfl)) (E.b e_non) is_n rfl)) fun _ => t_tru (d := .bool mb) (E.b (e_var rfl)) rfl) (fun y => ?_) fun y => s_next (n_end1 ?_)) ?_
  · rw [show due2 du mb t.length = some (("many" : Str), t.length) from if_pos y]
    refine s_asg (d := .tuple [.str "many", .int (t.length : Nat)]) (e_tup (ds := [.str "many", .int (t.length : Nat)]) (a_cons e_str (a_cons (b_cb (ab_cons (E.b (e_var rfl)) ab_nil) (len_s (by omega)) rfl) a_nil)) (Nat.le_of_ble_eq_true rfl)) (n_end1 ?_)
    exact .keep rfl (.keep rfl (.keep rfl (.keep rfl (.keep rfl (.keep rfl (.keep rfl (.keep rfl (.keep rfl (.drop (.drop (.keep rfl (.keep rfl (.drop (.keep rfl (.keep rfl (.drop (.drop (.drop (.drop (.drop .nil))))))))))))))))))))
  · rw [show due2 du mb t.length = dpD du from if_neg (by rw [y]; decide)]
    exact .keep rfl (.keep rfl (.keep rfl (.keep rfl (.keep rfl (.keep rfl (.keep rfl (.keep rfl (.keep rfl (.drop (.drop (.keep rfl (.keep rfl (.drop (.keep rfl (.keep rfl (.drop (.drop (.drop (.drop (.drop .nil))))))))))))))))))))
  refine s_cut [.fz (iL sc), .fz (iL D), .fz (.int (dp : Nat)), .fz (.int (s : Nat)), .fz (.int (q : Nat)), .fz (.int (m : Nat)), .fz (.int (v : Nat)), .fz (.int (nm : Nat)), .fz (.int sp), .un, .un, .fz (.int (pl : Nat)), .fz (.str t), .un, .fz (.int (ops : Nat)), .fz (duT (due3 du mb t.length pl sp)), .un, .un, .un, .un, .un] (s_if (b := (due2 du mb t.length).isNone && (decide (sp < 1) || decide (1000 < sp))) (t_and (by rw [← du_n]; exact t_test (b_op (E.b (e_var rfl)) (E.b e_non) is_n rfl)) fun _ => t_or (t_test (b_op (E.b (e_var rfl)) (E.b e_int) lt_i rfl)) fun _ => t_test (b_op (E.b (e_var rfl)) (E.b e_int) gt_i rfl)) (fun y => ?_) fun y => s_next (n_end1 ?_)) ?_
  · rw [show due3 du mb t.length pl sp = some (("span" : Str), pl) from if_pos y]
    exact s_asg (d := .tuple [.str "span", .int (pl : Nat)]) (e_tup (ds := [.str "span", .int (pl : Nat)]) (a_cons e_str (a_cons (e_var rfl) a_nil)) (Nat.le_of_ble_eq_true rfl)) (n_end1 (Wk.refl _))
  · rw [show due3 du mb t.length pl sp = due2 du mb t.length from if_neg (by rw [y]; decide)]
    exact Wk.refl _
  refine s_cut [.fz (iL sc), .fz (iL D), .fz (.int (dp : Nat)), .fz (.int (s : Nat)), .fz (.int (q : Nat)), .fz (.int (m : Nat)), .fz (.int (v : Nat)), .fz (.int (nm : Nat)), .fz (.int sp), .un, .un, .fz (.int (pl : Nat)), .fz (.str t), .un, .fz (.int (ops : Nat)), .fz (duT (due4 du mb t.length pl sp)), .un, .un, .un, .un, .un] (s_if (b := decide (((t.length : Nat) : Int) > 300)) (t_test (b_op (E.b (b_cb (ab_cons (E.b (e_var rfl)) ab_nil) (len_s (by omega)) rfl)) (E.b e_int) gt_i rfl)) (fun y => ?_) fun y => s_next (n_end1 ?_)) ?_
  · rw [show due4 du mb t.length pl sp = some (("long" : Str), 300) from if_pos y]
    exact s_asg (d := .tuple [.str "long", .int ((300 : Nat) : Int)]) (e_tup (ds := [.str "long", .int ((300 : Nat) : Int)]) (a_cons e_str (a_cons e_int a_nil)) (Nat.le_of_ble_eq_true rfl)) (n_end1 (Wk.refl _))
  · rw [show due4 du mb t.length pl sp = due3 du mb t.length pl sp from if_neg (by rw [y]; decide)]
    exact Wk.refl _
  generalize due4 du mb t.length pl sp = o at par nmany ⊢
  have rp : R_prs C [.str t] (outL C T o) := ⟨t, rfl, by omega, par⟩
  cases o with
  | some pr =>
    obtain ⟨fw, n⟩ := pr
    refine q_tryX (o := exc2 C fw n) (ds := [.str t]) (a_cons (e_var rfl) a_nil) rp (fun d hd => by cases hd) fun C' fs hd' => ?_
    cases hd'
    refine ⟨EX, fun a dx ws' F1 hdx hfs => ?_⟩
    exact s_ret (d := .bool true) (b_op (x := .tuple [.str fw, .int (n : Nat)]) (E.b (e_tup (ds := [.str fw, .int (n : Nat)]) (a_cons (e_fld rfl hdx hfs rfl) (a_cons (e_fld rfl hdx hfs rfl) a_nil)) (Nat.le_of_ble_eq_true rfl))) (E.b (e_var rfl)) (eqP_same ((pl_tup (n := 0) (pla_cons pl_str (pla_cons pl_int pla_nil))).mono (by decide))) rfl) rt
  | none =>
    refine q_tryX (o := .val (exD T)) (ds := [.str t]) (a_cons (e_var rfl) a_nil) rp (fun d hd' => ?_) fun C' fs hd' => by cases hd'
    cases hd'
    have hmb := nmany rfl
    rw [hmb] at mbE
    have o8 : ops ≤ 8 := by
      cases h8 : decide (8 < ops) with
      | false => have := of_decide_eq_false h8; omega
      | true =>
        rw [h8] at mbE
        rw [Bool.true_or, Bool.or_true] at mbE
        cases mbE
    have dT := dep_ops T
    have rc : R_co 9 [exD T] (.tuple [.int (s : Nat), .int (ops : Nat)]) := ⟨T, rfl, by rw [cn.o] at dT; omega, by rw [cn.s, cn.o]⟩
    exact s_ret (d := .bool (true && true)) (e_andV (b_op (x := .none) (E.b (e_var rfl)) (E.b e_non) is_n rfl) fun _ => b_op (E.b (e_call (R := R_co 9) (ds := [exD T]) (a_cons (e_var rfl) a_nil) rc)) (E.b (e_tup (ds := [.int (s : Nat), .int (ops : Nat)]) (a_cons (e_var rfl) (a_cons (e_var rfl) a_nil)) (Nat.le_of_ble_eq_true rfl))) (eqP_same ((pl_tup (n := 0) (pla_cons pl_int (pla_cons pl_int pla_nil))).mono (by decide))) rfl) rt
end
/-! ### the defs of __init__ -/
abbrev s_init (i : Nat) : Stmt := (clsB (topS i)).getD 0 (.Pass ⟨0, 0, 0, 0⟩)
theorem sc_initA : FnScope ["self", "fault", "place"] ["self", "fault", "place"] (defScope (s_init 2)) := ⟨rfl, rfl, rfl, by decide +kernel, rfl, by decide +kernel, by decide +kernel⟩
theorem sc_initB : FnScope ["self", "place"] ["self", "place"] (defScope (s_init 3)) := ⟨rfl, rfl, rfl, by decide +kernel, rfl, by decide +kernel, by decide +kernel⟩
section
variable {P : Program} {w : World} {K : PySem.W.Frag} {mg : Str → Option Value} {base : Heap} {C fI : Addr} {fd : FuncData}
theorem xi_A (gC : mg "BadExpression" = some (.ref C)) (F : Fun K "__init__" "BadExpression.__init__" (s_init 2) fI fd) (hb : Binds K fd ["self", "fault", "place"] []) (hC : OexC K C) (hf : PySem.W.findIn K (.ref C) "fault" = some none) (hh : PySem.W.findIn K (.ref C) "place" = some none)
    (iC : PySem.W.findIn K (.ref C) "__init__" = some (some (.ref fI))) (tI : PySem.W.typeIn K (.ref fI) = some (.type "function")) : XiOk2 P w K mg base "BadExpression" C "fault" "place" :=
  ⟨gC, hC, hf, hh, fI, fd, ["self", "fault", "place"], iC, tI, init_ok2 F sc_initA hC hf hh (fun cdv A outer s H E => pss_cons (ps_ost (pv 0) (pv 1)) (pss_one (ps_ost (pv 0) (pv 2)))), hb⟩
theorem xi_B (gC : mg "BadSteps" = some (.ref C)) (F : Fun K "__init__" "BadSteps.__init__" (s_init 3) fI fd) (hb : Binds K fd ["self", "place"] []) (hC : OexC K C) (hf : PySem.W.findIn K (.ref C) "place" = some none)
    (iC : PySem.W.findIn K (.ref C) "__init__" = some (some (.ref fI))) (tI : PySem.W.typeIn K (.ref fI) = some (.type "function")) : XiOk P w K mg base "BadSteps" C "place" :=
  ⟨gC, hC, hf, fI, fd, ["self", "place"], iC, tI, init_ok F sc_initB hC hf (fun cdv A outer s H E => pss_one (ps_ost (pv 0) (pv 1))), hb⟩
end
/-! ### what the text says of the class and of the written dicts -/
section
variable {P : Program} {w : World} {K : PySem.W.Frag} {mg : Str → Option Value} {base : Heap} {f C D : Addr} {fd : FuncData} {Tb : List Addr} {k : Nat}
theorem mk_wi (Fn : Fun K "__init__" "Walk.__init__" s_Walk_init f fd) (hM : Mk K C f) (hb : Binds K fd ["self"] []) (Z : Zb mg) (hC : mg "Walk" = some (.ref C)) (CL_Walk : Cls K C) (N1 : NoAttr K C "state") (N2 : NoAttr K C "depth") (N3 : NoAttr K C "in_range") :
    MkM P w K mg base 1 "Walk" C ["self"] (spM K Tb C R_wi) := ⟨hC, f, fd, hM, ok_wi Fn Z CL_Walk N1 N2 N3, hb⟩
theorem kdl_of {es : Array DictEntry} {n : Nat} {ks : List Str} (hl : K.lookup D = some ⟨.type "dict", none, .dict es n, #[]⟩) (low : (D == sysModules) = false) (h : Paired (fun (e : DictEntry) k => ∃ t, e.key = .str k t) es.toList ks) : KdL K D ks := by
  have hz : es.size = ks.length := by
    have := Paired.length h
    rw [Array.length_toList] at this
    exact this
  refine ⟨es, n, hl, low, hz, fun i hi => ?_⟩
  have key : ∀ {l : List DictEntry} {ks : List Str}, Paired (fun (e : DictEntry) k => ∃ t, e.key = .str k t) l ks → ∀ (i : Nat) (e : DictEntry), l[i]? = some e → ∃ k t, ks[i]? = some k ∧ e.key = .str k t := by
    intro l ks h
    induction h with
    | nil => intro i e h; cases h
    | cons h t ih =>
      intro i e he
      cases i with
      | zero => cases he; obtain ⟨t, ht⟩ := h; exact ⟨_, t, rfl, ht⟩
      | succ i => exact ih i e he
  exact key h i es[i] (by rw [Array.getElem?_toList, Array.getElem?_eq_getElem hi])
def HasP (K : PySem.W.Frag) (D : Addr) : List (Str × List (Str × Str)) → Prop
  | [] => True
  | q :: r => (∃ a, PySem.W.nsIn K D q.1 = some (some (.ref a)) ∧ KpT K a q.2) ∧ HasP K D r
theorem has_p : ∀ {tab : List (Str × List (Str × Str))}, HasP K D tab → ∀ q ∈ tab, ∃ a, PySem.W.nsIn K D q.1 = some (some (.ref a)) ∧ KpT K a q.2
  | [], _, q, h => absurd h List.not_mem_nil
  | p :: tab, h, q, hq => by
    rcases List.mem_cons.mp hq with rfl | hq
    · exact h.1
    · exact has_p h.2 q hq
end
/-! ### what the text says of Reader and of STRENGTHS -/
structure StOk (K : PySem.W.Frag) (w : World) (mg : Str → Option Value) (p : Addr) : Prop where
  gC : mg "STRENGTHS" = some (.ref p)
  kd : KdO K w p
  v0 : ∃ t, PySem.W.nsIn K p "or" = some (some (.int 1 t))
  v1 : ∃ t, PySem.W.nsIn K p "and" = some (some (.int 2 t))
  v2 : ∃ t, PySem.W.nsIn K p "unless" = some (some (.int 2 t))
  v3 : ∃ t, PySem.W.nsIn K p "<" = some (some (.int 3 t))
  v4 : ∃ t, PySem.W.nsIn K p "<=" = some (some (.int 3 t))
  v5 : ∃ t, PySem.W.nsIn K p ">" = some (some (.int 3 t))
  v6 : ∃ t, PySem.W.nsIn K p ">=" = some (some (.int 3 t))
  v7 : ∃ t, PySem.W.nsIn K p "==" = some (some (.int 3 t))
  v8 : ∃ t, PySem.W.nsIn K p "!=" = some (some (.int 3 t))
  v9 : ∃ t, PySem.W.nsIn K p "+" = some (some (.int 4 t))
  v10 : ∃ t, PySem.W.nsIn K p "-" = some (some (.int 4 t))
  v11 : ∃ t, PySem.W.nsIn K p "*" = some (some (.int 5 t))
  m0 : PySem.W.nsIn K p "" = some none
  m1 : PySem.W.nsIn K p ")" = some none
section
variable {P : Program} {w : World} {K : PySem.W.Frag} {mg : Str → Option Value} {base : Heap} {f C : Addr} {fd : FuncData} {Tb : List Addr} {k : Nat}
theorem StOk.t {p : Addr} (T : StOk K w mg p) : KdT K w p stT ["", ")"] where
  kd := T.kd
  has := fun q hq => by
    have go : ∀ {s : Str} {i : Int}, (∃ t, PySem.W.nsIn K p s = some (some (.int i t))) → ∃ u v, PySem.W.nsIn K p ((s, PyData.int i) : Str × PyData).1 = some (some u) ∧ RelV v u ∧ ∀ F, Dp K F v ((s, PyData.int i) : Str × PyData).2 := fun ⟨t, h⟩ => ⟨_, .int _, h, ⟨_, rfl⟩, fun F => .int _⟩
    obtain ⟨a, ha, rfl⟩ := List.mem_map.mp hq
    simp only [stL, List.mem_cons, List.not_mem_nil, or_false] at ha
    rcases ha with rfl | rfl | rfl | rfl | rfl | rfl | rfl | rfl | rfl | rfl | rfl | rfl
    · exact go T.v0
    · exact go T.v1
    · exact go T.v2
    · exact go T.v3
    · exact go T.v4
    · exact go T.v5
    · exact go T.v6
    · exact go T.v7
    · exact go T.v8
    · exact go T.v9
    · exact go T.v10
    · exact go T.v11
  non := fun s hs => by
    simp only [List.mem_cons, List.not_mem_nil, or_false] at hs
    rcases hs with rfl | rfl
    · exact T.m0
    · exact T.m1
structure MF (K : PySem.W.Frag) (C : Addr) (m qual : Str) (st : Stmt) (ps : List Str) : Prop where
  ex : ∃ f fd, Fun K m qual st f fd ∧ Meth K C m f ∧ Binds K fd ps []
theorem mk_fa {P : Program} {w : World} {mg : Str → Option Value} {base : Heap} {Tb : List Addr} (Fn : Fun K "read_aggregate" "Reader.read_aggregate" s_Reader_read_aggregate f fd) (hM : Meth K C "read_aggregate" f) (hb : Binds K fd ["self", "word", "place"] []) (Z : Zb mg) : MF K C "read_aggregate" "Reader.read_aggregate" s_Reader_read_aggregate ["self", "word", "place"] := ⟨f, fd, Fn, hM, hb⟩
theorem mk_fo {P : Program} {w : World} {mg : Str → Option Value} {base : Heap} {Tb : List Addr} (Fn : Fun K "read_operand" "Reader.read_operand" s_Reader_read_operand f fd) (hM : Meth K C "read_operand" f) (hb : Binds K fd ["self"] []) (Z : Zb mg) : MF K C "read_operand" "Reader.read_operand" s_Reader_read_operand ["self"] := ⟨f, fd, Fn, hM, hb⟩
theorem ok_red {pO pA pS : Addr} (Fn : Fun K "read_expression" "Reader.read_expression" s_Reader_read_expression f fd) (hM : Meth K C "read_expression" f) (hb : Binds K fd ["self", "weakest"] []) (Z : Zb mg) (CL_Reader : Cls K C) (N3 : NoAttr K C "marks")
    (TO : TcOk K mg "OVER_WORDS" pO OVs) (TA : TcOk K mg "AGGREGATE_WORDS" pA AGs) (TS : StOk K w mg pS)
    (D1 : DW.MtOk P w K mg base 1 C "take" ["self"] (spF K Tb (rdFm K C) R_tkr)) (D2 : DW.MtOk P w K mg base 1 C "peek" ["self"] (spF K Tb (rdFm K C) R_pk))
    (D3 : DW.MtOk P w K mg base 2 C "read_list" ["self"] (spF K Tb (rdFm K C) R_rls)) (D4 : DW.MtOk P w K mg base 4 C "read_matchers" ["self"] (spF K Tb (rdFm K C) R_rms))
    (D5 : DW.MtOk P w K mg base 5 C "read_over" ["self", "word"] (spF K Tb (rdFm K C) R_rov))
    (A : MF K C "read_aggregate" "Reader.read_aggregate" s_Reader_read_aggregate ["self", "word", "place"]) (O : MF K C "read_operand" "Reader.read_operand" s_Reader_read_operand ["self"]) :
    DW.MtOk P w K mg base 173 C "read_expression" ["self", "weakest"] (spF K Tb (rdFm K C) (R_re (ED 21))) := by
  obtain ⟨fa, fda, Fa, Ma, Ba⟩ := A.ex
  obtain ⟨fo, fdo, Fo, Mo, Bo⟩ := O.ex
  exact mt_ed ⟨fun {E0 X} hE hX {J j1 j2} h1 h2 hj m1 m2 => ok_re hE hX h1 h2 hj Fn hM hb Z CL_Reader N3 ⟨_, TS.gC, rfl⟩ TS.t D1 D2 m1 m2,
    fun {E0} hE {j} hj m => ok_ro hE hj Fo Mo Bo Z CL_Reader N3 TO TA D1 D2 D4 D5 m (ok_rag hE hj Fa Ma Ba Z CL_Reader N3 D1 D2 D3 m),
    fun {X} j no => mt_no Fn hM hb no⟩ 21
theorem mk_ri (Fn : Fun K "__init__" "Reader.__init__" s_Reader_init f fd) (hM : Mk K C f) (hb : Binds K fd ["self", "found"] []) (Z : Zb mg) (hC : mg "Reader" = some (.ref C)) (CL_Reader : Cls K C) (N1 : NoAttr K C "found") (N2 : NoAttr K C "at") (N3 : NoAttr K C "marks") :
    MkM P w K mg base 1 "Reader" C ["self", "found"] (spRi K Tb C) := ⟨hC, f, fd, hM, ok_ri Fn Z CL_Reader N1 N2 N3, hb⟩
end
theorem all_mk {l : PySem.W.OpenLaw} {w : World} {K : PySem.W.Frag} {h : Heap} {mg : Str → Option Value} {fa f1 f2 f3 f4 f5 f6 f7 f8 f9 f10 f11 f12 f13 f14 f15 f16 f17 f18 f19 f20 f21 f22 f23 f24 f25 f26 f27 f28 f29 f30 f31 f32 f33 f34 f35 f36 f37 f38 f39 K_Reader K_Walk : Addr} {ct28_ pt28_ : Addr} {ocm28 : Value} {odm28 : Option Addr} {vsm28 : Array Value} {slm28 : Array (Option Value)} (X : K.In h) (G : h.Ns mainGlobals mg) (hfa : mg "law" = some (.ref fa))
    {od1 an1 od2 an2 od3 an3 od4 an4 od5 an5 od6 an6 od7 an7 od8 an8 od9 an9 od10 an10 od11 an11 od12 an12 od13 an13 od14 an14 od15 an15 od16 an16 od17 an17 od18 an18 od19 an19 od20 an20 od21 an21 od22 an22 od23 an23 od24 an24 od25 an25 od26 an26 od27 an27 od28 an28 od29 an29 od30 an30 od31 an31 od32 an32 od33 an33 od34 an34 od35 an35 od36 an36 od37 an37 od38 an38 od39 an39 : Option Addr} {sl1 sl2 sl3 sl4 sl5 sl6 sl7 sl8 sl9 sl10 sl11 sl12 sl13 sl14 sl15 sl16 sl17 sl18 sl19 sl20 sl21 sl22 sl23 sl24 sl25 sl26 sl27 sl28 sl29 sl30 sl31 sl32 sl33 sl34 sl35 sl36 sl37 sl38 sl39 : Array (Option Value)} {oc1 kV1 dc1 pm1 cd1 ct1 oc2 kV2 dc2 pm2 cd2 ct2 oc3 kV3 dc3 pm3 cd3 ct3 oc4 kV4 dc4 pm4 cd4 ct4 oc5 kV5 dc5 pm5 cd5 ct5 oc6 kV6 dc6 pm6 cd6 ct6 oc7 kV7 dc7 pm7 cd7 ct7 oc8 kV8 dc8 pm8 cd8 ct8 oc9 kV9 dc9 pm9 cd9 ct9 oc10 kV10 dc10 pm10 cd10 ct10 oc11 kV11 dc11 pm11 cd11 ct11 oc12 kV12 dc12 pm12 cd12 ct12 oc13 kV13 dc13 pm13 cd13 ct13 oc14 kV14 dc14 pm14 cd14 ct14 oc15 kV15 dc15 pm15 cd15 ct15 oc16 kV16 dc16 pm16 cd16 ct16 oc17 kV17 dc17 pm17 cd17 ct17 oc18 kV18 dc18 pm18 cd18 ct18 oc19 kV19 dc19 pm19 cd19 ct19 oc20 kV20 dc20 pm20 cd20 ct20 oc21 kV21 dc21 pm21 cd21 ct21 oc22 kV22 dc22 pm22 cd22 ct22 oc23 kV23 dc23 pm23 cd23 ct23 oc24 kV24 dc24 pm24 cd24 ct24 oc25 kV25 dc25 pm25 cd25 ct25 oc26 kV26 dc26 pm26 cd26 ct26 oc27 kV27 dc27 pm27 cd27 ct27 oc28 kV28 dc28 pm28 ct28 oc29 kV29 dc29 pm29 cd29 ct29 oc30 kV30 dc30 pm30 cd30 ct30 oc31 kV31 dc31 pm31 cd31 ct31 oc32 kV32 dc32 pm32 cd32 ct32 oc33 kV33 dc33 pm33 cd33 ct33 oc34 kV34 dc34 pm34 cd34 ct34 oc35 kV35 dc35 pm35 cd35 ct35 oc36 kV36 dc36 pm36 cd36 ct36 oc37 kV37 dc37 pm37 cd37 ct37 oc38 kV38 dc38 pm38 cd38 ct38 oc39 kV39 dc39 pm39 cd39 ct39 : Value}
    (a1 : PySem.W.nsIn K mainGlobals "_law_cell" = some (some (.ref f1))) (l1 : K.lookup f1 = some ⟨oc1, od1, .func (PySem.W.fnOf "_law_cell" "_law_cell" (defArgs s_l_law_cell) (defBody s_l_law_cell) (defScope s_l_law_cell) .none kV1 dc1 pm1 an1 cd1 ct1), sl1⟩) (c1 : PySem.W.codeIn K cd1 "_law_cell" = true) (k1 : PySem.W.keepIn K (.ref f1) = true)
    (a2 : PySem.W.nsIn K mainGlobals "_law_draws" = some (some (.ref f2))) (l2 : K.lookup f2 = some ⟨oc2, od2, .func (PySem.W.fnOf "_law_draws" "_law_draws" (defArgs s_l_law_draws) (defBody s_l_law_draws) (defScope s_l_law_draws) .none kV2 dc2 pm2 an2 cd2 ct2), sl2⟩) (c2 : PySem.W.codeIn K cd2 "_law_draws" = true) (k2 : PySem.W.keepIn K (.ref f2) = true)
    (a3 : PySem.W.nsIn K mainGlobals "run_end" = some (some (.ref f3))) (l3 : K.lookup f3 = some ⟨oc3, od3, .func (PySem.W.fnOf "run_end" "run_end" (defArgs s_run_end) (defBody s_run_end) (defScope s_run_end) .none kV3 dc3 pm3 an3 cd3 ct3), sl3⟩) (c3 : PySem.W.codeIn K cd3 "run_end" = true) (k3 : PySem.W.keepIn K (.ref f3) = true)
    (a4 : PySem.W.nsIn K mainGlobals "word_at" = some (some (.ref f4))) (l4 : K.lookup f4 = some ⟨oc4, od4, .func (PySem.W.fnOf "word_at" "word_at" (defArgs s_word_at) (defBody s_word_at) (defScope s_word_at) .none kV4 dc4 pm4 an4 cd4 ct4), sl4⟩) (c4 : PySem.W.codeIn K cd4 "word_at" = true) (k4 : PySem.W.keepIn K (.ref f4) = true)
    (a5 : PySem.W.nsIn K mainGlobals "number_at" = some (some (.ref f5))) (l5 : K.lookup f5 = some ⟨oc5, od5, .func (PySem.W.fnOf "number_at" "number_at" (defArgs s_number_at) (defBody s_number_at) (defScope s_number_at) .none kV5 dc5 pm5 an5 cd5 ct5), sl5⟩) (c5 : PySem.W.codeIn K cd5 "number_at" = true) (k5 : PySem.W.keepIn K (.ref f5) = true)
    (a6 : PySem.W.nsIn K mainGlobals "string_at" = some (some (.ref f6))) (l6 : K.lookup f6 = some ⟨oc6, od6, .func (PySem.W.fnOf "string_at" "string_at" (defArgs s_string_at) (defBody s_string_at) (defScope s_string_at) .none kV6 dc6 pm6 an6 cd6 ct6), sl6⟩) (c6 : PySem.W.codeIn K cd6 "string_at" = true) (k6 : PySem.W.keepIn K (.ref f6) = true)
    (a7 : PySem.W.nsIn K mainGlobals "symbol_at" = some (some (.ref f7))) (l7 : K.lookup f7 = some ⟨oc7, od7, .func (PySem.W.fnOf "symbol_at" "symbol_at" (defArgs s_symbol_at) (defBody s_symbol_at) (defScope s_symbol_at) .none kV7 dc7 pm7 an7 cd7 ct7), sl7⟩) (c7 : PySem.W.codeIn K cd7 "symbol_at" = true) (k7 : PySem.W.keepIn K (.ref f7) = true)
    (a8 : PySem.W.nsIn K mainGlobals "token_at" = some (some (.ref f8))) (l8 : K.lookup f8 = some ⟨oc8, od8, .func (PySem.W.fnOf "token_at" "token_at" (defArgs s_token_at) (defBody s_token_at) (defScope s_token_at) .none kV8 dc8 pm8 an8 cd8 ct8), sl8⟩) (c8 : PySem.W.codeIn K cd8 "token_at" = true) (k8 : PySem.W.keepIn K (.ref f8) = true)
    (a9 : PySem.W.nsIn K mainGlobals "scan" = some (some (.ref f9))) (l9 : K.lookup f9 = some ⟨oc9, od9, .func (PySem.W.fnOf "scan" "scan" (defArgs s_scan) (defBody s_scan) (defScope s_scan) .none kV9 dc9 pm9 an9 cd9 ct9), sl9⟩) (c9 : PySem.W.codeIn K cd9 "scan" = true) (k9 : PySem.W.keepIn K (.ref f9) = true)
    (a10 : PySem.W.findIn K (.ref K_Walk) "__init__" = some (some (.ref f10))) (l10 : K.lookup f10 = some ⟨oc10, od10, .func (PySem.W.fnOf "__init__" "Walk.__init__" (defArgs s_Walk_init) (defBody s_Walk_init) (defScope s_Walk_init) .none kV10 dc10 pm10 an10 cd10 ct10), sl10⟩) (c10 : PySem.W.codeIn K cd10 "Walk.__init__" = true) (k10 : PySem.W.keepIn K (.ref f10) = true) (xq_f10 : PySem.W.isFn K (.ref f10) = true)
    (a11 : PySem.W.findIn K (.ref K_Walk) "note_brackets" = some (some (.ref f11))) (l11 : K.lookup f11 = some ⟨oc11, od11, .func (PySem.W.fnOf "note_brackets" "Walk.note_brackets" (defArgs s_Walk_note_brackets) (defBody s_Walk_note_brackets) (defScope s_Walk_note_brackets) .none kV11 dc11 pm11 an11 cd11 ct11), sl11⟩) (c11 : PySem.W.codeIn K cd11 "Walk.note_brackets" = true) (k11 : PySem.W.keepIn K (.ref f11) = true) (xq_f11 : PySem.W.isFn K (.ref f11) = true)
    (a12 : PySem.W.findIn K (.ref K_Walk) "refined" = some (some (.ref f12))) (l12 : K.lookup f12 = some ⟨oc12, od12, .func (PySem.W.fnOf "refined" "Walk.refined" (defArgs s_Walk_refined) (defBody s_Walk_refined) (defScope s_Walk_refined) .none kV12 dc12 pm12 an12 cd12 ct12), sl12⟩) (c12 : PySem.W.codeIn K cd12 "Walk.refined" = true) (k12 : PySem.W.keepIn K (.ref f12) = true) (xq_f12 : PySem.W.isFn K (.ref f12) = true)
    (a13 : PySem.W.nsIn K mainGlobals "choice_for" = some (some (.ref f13))) (l13 : K.lookup f13 = some ⟨oc13, od13, .func (PySem.W.fnOf "choice_for" "choice_for" (defArgs s_choice_for) (defBody s_choice_for) (defScope s_choice_for) .none kV13 dc13 pm13 an13 cd13 ct13), sl13⟩) (c13 : PySem.W.codeIn K cd13 "choice_for" = true) (k13 : PySem.W.keepIn K (.ref f13) = true)
    (a14 : PySem.W.findIn K (.ref K_Walk) "choices" = some (some (.ref f14))) (l14 : K.lookup f14 = some ⟨oc14, od14, .func (PySem.W.fnOf "choices" "Walk.choices" (defArgs s_Walk_choices) (defBody s_Walk_choices) (defScope s_Walk_choices) .none kV14 dc14 pm14 an14 cd14 ct14), sl14⟩) (c14 : PySem.W.codeIn K cd14 "Walk.choices" = true) (k14 : PySem.W.keepIn K (.ref f14) = true) (xq_f14 : PySem.W.isFn K (.ref f14) = true)
    (a15 : PySem.W.findIn K (.ref K_Walk) "take" = some (some (.ref f15))) (l15 : K.lookup f15 = some ⟨oc15, od15, .func (PySem.W.fnOf "take" "Walk.take" (defArgs s_Walk_take) (defBody s_Walk_take) (defScope s_Walk_take) .none kV15 dc15 pm15 an15 cd15 ct15), sl15⟩) (c15 : PySem.W.codeIn K cd15 "Walk.take" = true) (k15 : PySem.W.keepIn K (.ref f15) = true) (xq_f15 : PySem.W.isFn K (.ref f15) = true)
    (a16 : PySem.W.nsIn K mainGlobals "walk_along" = some (some (.ref f16))) (l16 : K.lookup f16 = some ⟨oc16, od16, .func (PySem.W.fnOf "walk_along" "walk_along" (defArgs s_walk_along) (defBody s_walk_along) (defScope s_walk_along) .none kV16 dc16 pm16 an16 cd16 ct16), sl16⟩) (c16 : PySem.W.codeIn K cd16 "walk_along" = true) (k16 : PySem.W.keepIn K (.ref f16) = true)
    (a17 : PySem.W.nsIn K mainGlobals "from_steps" = some (some (.ref f17))) (l17 : K.lookup f17 = some ⟨oc17, od17, .func (PySem.W.fnOf "from_steps" "from_steps" (defArgs s_from_steps) (defBody s_from_steps) (defScope s_from_steps) .none kV17 dc17 pm17 an17 cd17 ct17), sl17⟩) (c17 : PySem.W.codeIn K cd17 "from_steps" = true) (k17 : PySem.W.keepIn K (.ref f17) = true)
    (a18 : PySem.W.findIn K (.ref K_Reader) "peek" = some (some (.ref f18))) (l18 : K.lookup f18 = some ⟨oc18, od18, .func (PySem.W.fnOf "peek" "Reader.peek" (defArgs s_Reader_peek) (defBody s_Reader_peek) (defScope s_Reader_peek) .none kV18 dc18 pm18 an18 cd18 ct18), sl18⟩) (c18 : PySem.W.codeIn K cd18 "Reader.peek" = true) (k18 : PySem.W.keepIn K (.ref f18) = true) (xq_f18 : PySem.W.isFn K (.ref f18) = true)
    (a19 : PySem.W.findIn K (.ref K_Reader) "take" = some (some (.ref f19))) (l19 : K.lookup f19 = some ⟨oc19, od19, .func (PySem.W.fnOf "take" "Reader.take" (defArgs s_Reader_take) (defBody s_Reader_take) (defScope s_Reader_take) .none kV19 dc19 pm19 an19 cd19 ct19), sl19⟩) (c19 : PySem.W.codeIn K cd19 "Reader.take" = true) (k19 : PySem.W.keepIn K (.ref f19) = true) (xq_f19 : PySem.W.isFn K (.ref f19) = true)
    (a20 : PySem.W.findIn K (.ref K_Reader) "read_list" = some (some (.ref f20))) (l20 : K.lookup f20 = some ⟨oc20, od20, .func (PySem.W.fnOf "read_list" "Reader.read_list" (defArgs s_Reader_read_list) (defBody s_Reader_read_list) (defScope s_Reader_read_list) .none kV20 dc20 pm20 an20 cd20 ct20), sl20⟩) (c20 : PySem.W.codeIn K cd20 "Reader.read_list" = true) (k20 : PySem.W.keepIn K (.ref f20) = true) (xq_f20 : PySem.W.isFn K (.ref f20) = true)
    (a21 : PySem.W.findIn K (.ref K_Reader) "read_matcher" = some (some (.ref f21))) (l21 : K.lookup f21 = some ⟨oc21, od21, .func (PySem.W.fnOf "read_matcher" "Reader.read_matcher" (defArgs s_Reader_read_matcher) (defBody s_Reader_read_matcher) (defScope s_Reader_read_matcher) .none kV21 dc21 pm21 an21 cd21 ct21), sl21⟩) (c21 : PySem.W.codeIn K cd21 "Reader.read_matcher" = true) (k21 : PySem.W.keepIn K (.ref f21) = true) (xq_f21 : PySem.W.isFn K (.ref f21) = true)
    (a22 : PySem.W.findIn K (.ref K_Reader) "read_matchers" = some (some (.ref f22))) (l22 : K.lookup f22 = some ⟨oc22, od22, .func (PySem.W.fnOf "read_matchers" "Reader.read_matchers" (defArgs s_Reader_read_matchers) (defBody s_Reader_read_matchers) (defScope s_Reader_read_matchers) .none kV22 dc22 pm22 an22 cd22 ct22), sl22⟩) (c22 : PySem.W.codeIn K cd22 "Reader.read_matchers" = true) (k22 : PySem.W.keepIn K (.ref f22) = true) (xq_f22 : PySem.W.isFn K (.ref f22) = true)
    (a23 : PySem.W.findIn K (.ref K_Reader) "read_over" = some (some (.ref f23))) (l23 : K.lookup f23 = some ⟨oc23, od23, .func (PySem.W.fnOf "read_over" "Reader.read_over" (defArgs s_Reader_read_over) (defBody s_Reader_read_over) (defScope s_Reader_read_over) .none kV23 dc23 pm23 an23 cd23 ct23), sl23⟩) (c23 : PySem.W.codeIn K cd23 "Reader.read_over" = true) (k23 : PySem.W.keepIn K (.ref f23) = true) (xq_f23 : PySem.W.isFn K (.ref f23) = true)
    (a24 : PySem.W.findIn K (.ref K_Reader) "read_aggregate" = some (some (.ref f24))) (l24 : K.lookup f24 = some ⟨oc24, od24, .func (PySem.W.fnOf "read_aggregate" "Reader.read_aggregate" (defArgs s_Reader_read_aggregate) (defBody s_Reader_read_aggregate) (defScope s_Reader_read_aggregate) .none kV24 dc24 pm24 an24 cd24 ct24), sl24⟩) (c24 : PySem.W.codeIn K cd24 "Reader.read_aggregate" = true) (k24 : PySem.W.keepIn K (.ref f24) = true) (xq_f24 : PySem.W.isFn K (.ref f24) = true)
    (a25 : PySem.W.findIn K (.ref K_Reader) "read_operand" = some (some (.ref f25))) (l25 : K.lookup f25 = some ⟨oc25, od25, .func (PySem.W.fnOf "read_operand" "Reader.read_operand" (defArgs s_Reader_read_operand) (defBody s_Reader_read_operand) (defScope s_Reader_read_operand) .none kV25 dc25 pm25 an25 cd25 ct25), sl25⟩) (c25 : PySem.W.codeIn K cd25 "Reader.read_operand" = true) (k25 : PySem.W.keepIn K (.ref f25) = true) (xq_f25 : PySem.W.isFn K (.ref f25) = true)
    (a26 : PySem.W.findIn K (.ref K_Reader) "read_expression" = some (some (.ref f26))) (l26 : K.lookup f26 = some ⟨oc26, od26, .func (PySem.W.fnOf "read_expression" "Reader.read_expression" (defArgs s_Reader_read_expression) (defBody s_Reader_read_expression) (defScope s_Reader_read_expression) .none kV26 dc26 pm26 an26 cd26 ct26), sl26⟩) (c26 : PySem.W.codeIn K cd26 "Reader.read_expression" = true) (k26 : PySem.W.keepIn K (.ref f26) = true) (xq_f26 : PySem.W.isFn K (.ref f26) = true)
    (a27 : PySem.W.findIn K (.ref K_Reader) "__init__" = some (some (.ref f27))) (l27 : K.lookup f27 = some ⟨oc27, od27, .func (PySem.W.fnOf "__init__" "Reader.__init__" (defArgs s_Reader_init) (defBody s_Reader_init) (defScope s_Reader_init) .none kV27 dc27 pm27 an27 cd27 ct27), sl27⟩) (c27 : PySem.W.codeIn K cd27 "Reader.__init__" = true) (k27 : PySem.W.keepIn K (.ref f27) = true) (xq_f27 : PySem.W.isFn K (.ref f27) = true)
    (a28 : PySem.W.nsIn K mainGlobals "is_large" = some (some (.ref f28))) (l28 : K.lookup f28 = some ⟨oc28, od28, .func (PySem.W.fnOf "is_large" "is_large" (defArgs s_is_large) (defBody s_is_large) (defScope s_is_large) .none kV28 dc28 pm28 an28 (.ref ct28_) ct28), sl28⟩) (c28 : PySem.W.codeIn K (.ref ct28_) "is_large" = true) (k28 : PySem.W.keepIn K (.ref f28) = true)
    (a29 : PySem.W.nsIn K mainGlobals "check_sizes" = some (some (.ref f29))) (l29 : K.lookup f29 = some ⟨oc29, od29, .func (PySem.W.fnOf "check_sizes" "check_sizes" (defArgs s_check_sizes) (defBody s_check_sizes) (defScope s_check_sizes) .none kV29 dc29 pm29 an29 cd29 ct29), sl29⟩) (c29 : PySem.W.codeIn K cd29 "check_sizes" = true) (k29 : PySem.W.keepIn K (.ref f29) = true)
    (a30 : PySem.W.nsIn K mainGlobals "check_spans" = some (some (.ref f30))) (l30 : K.lookup f30 = some ⟨oc30, od30, .func (PySem.W.fnOf "check_spans" "check_spans" (defArgs s_check_spans) (defBody s_check_spans) (defScope s_check_spans) .none kV30 dc30 pm30 an30 cd30 ct30), sl30⟩) (c30 : PySem.W.codeIn K cd30 "check_spans" = true) (k30 : PySem.W.keepIn K (.ref f30) = true)
    (a31 : PySem.W.nsIn K mainGlobals "binary_kind" = some (some (.ref f31))) (l31 : K.lookup f31 = some ⟨oc31, od31, .func (PySem.W.fnOf "binary_kind" "binary_kind" (defArgs s_binary_kind) (defBody s_binary_kind) (defScope s_binary_kind) .none kV31 dc31 pm31 an31 cd31 ct31), sl31⟩) (c31 : PySem.W.codeIn K cd31 "binary_kind" = true) (k31 : PySem.W.keepIn K (.ref f31) = true)
    (a32 : PySem.W.nsIn K mainGlobals "aggregate_kind" = some (some (.ref f32))) (l32 : K.lookup f32 = some ⟨oc32, od32, .func (PySem.W.fnOf "aggregate_kind" "aggregate_kind" (defArgs s_aggregate_kind) (defBody s_aggregate_kind) (defScope s_aggregate_kind) .none kV32 dc32 pm32 an32 cd32 ct32), sl32⟩) (c32 : PySem.W.codeIn K cd32 "aggregate_kind" = true) (k32 : PySem.W.keepIn K (.ref f32) = true)
    (a33 : PySem.W.nsIn K mainGlobals "check_kinds" = some (some (.ref f33))) (l33 : K.lookup f33 = some ⟨oc33, od33, .func (PySem.W.fnOf "check_kinds" "check_kinds" (defArgs s_check_kinds) (defBody s_check_kinds) (defScope s_check_kinds) .none kV33 dc33 pm33 an33 cd33 ct33), sl33⟩) (c33 : PySem.W.codeIn K cd33 "check_kinds" = true) (k33 : PySem.W.keepIn K (.ref f33) = true)
    (a34 : PySem.W.nsIn K mainGlobals "check_depth" = some (some (.ref f34))) (l34 : K.lookup f34 = some ⟨oc34, od34, .func (PySem.W.fnOf "check_depth" "check_depth" (defArgs s_check_depth) (defBody s_check_depth) (defScope s_check_depth) .none kV34 dc34 pm34 an34 cd34 ct34), sl34⟩) (c34 : PySem.W.codeIn K cd34 "check_depth" = true) (k34 : PySem.W.keepIn K (.ref f34) = true)
    (a35 : PySem.W.nsIn K mainGlobals "checked_tokens" = some (some (.ref f35))) (l35 : K.lookup f35 = some ⟨oc35, od35, .func (PySem.W.fnOf "checked_tokens" "checked_tokens" (defArgs s_checked_tokens) (defBody s_checked_tokens) (defScope s_checked_tokens) .none kV35 dc35 pm35 an35 cd35 ct35), sl35⟩) (c35 : PySem.W.codeIn K cd35 "checked_tokens" = true) (k35 : PySem.W.keepIn K (.ref f35) = true)
    (a36 : PySem.W.nsIn K mainGlobals "parse" = some (some (.ref f36))) (l36 : K.lookup f36 = some ⟨oc36, od36, .func (PySem.W.fnOf "parse" "parse" (defArgs s_parse) (defBody s_parse) (defScope s_parse) .none kV36 dc36 pm36 an36 cd36 ct36), sl36⟩) (c36 : PySem.W.codeIn K cd36 "parse" = true) (k36 : PySem.W.keepIn K (.ref f36) = true)
    (a37 : PySem.W.nsIn K mainGlobals "parts_of" = some (some (.ref f37))) (l37 : K.lookup f37 = some ⟨oc37, od37, .func (PySem.W.fnOf "parts_of" "parts_of" (defArgs s_parts_of) (defBody s_parts_of) (defScope s_parts_of) .none kV37 dc37 pm37 an37 cd37 ct37), sl37⟩) (c37 : PySem.W.codeIn K cd37 "parts_of" = true) (k37 : PySem.W.keepIn K (.ref f37) = true)
    (a38 : PySem.W.nsIn K mainGlobals "count_of" = some (some (.ref f38))) (l38 : K.lookup f38 = some ⟨oc38, od38, .func (PySem.W.fnOf "count_of" "count_of" (defArgs s_count_of) (defBody s_count_of) (defScope s_count_of) .none kV38 dc38 pm38 an38 cd38 ct38), sl38⟩) (c38 : PySem.W.codeIn K cd38 "count_of" = true) (k38 : PySem.W.keepIn K (.ref f38) = true)
    (a39 : PySem.W.nsIn K mainGlobals "law" = some (some (.ref f39))) (l39 : K.lookup f39 = some ⟨oc39, od39, .func (PySem.W.fnOf "law" "law" (defArgs s_law) (defBody s_law) (defScope s_law) .none kV39 dc39 pm39 an39 cd39 ct39), sl39⟩) (c39 : PySem.W.codeIn K cd39 "law" = true) (k39 : PySem.W.keepIn K (.ref f39) = true)
    (m28 : K.lookup ct28_ = some ⟨ocm28, odm28, .fields vsm28, slm28⟩) (v28 : vsm28[11]? = some (.ref pt28_)) (n28 : K.lookup pt28_ = none)
    (z1 : PySem.W.nsIn K mainGlobals "len" = some none)
    (z2 : PySem.W.nsIn K mainGlobals "range" = some none)
    (z3 : PySem.W.nsIn K mainGlobals "sorted" = some none)
    (z4 : PySem.W.nsIn K mainGlobals "list" = some none)
    (z5 : PySem.W.nsIn K mainGlobals "tuple" = some none)
    (z6 : PySem.W.nsIn K mainGlobals "int" = some none)
    (z7 : PySem.W.nsIn K mainGlobals "bool" = some none)
    (z8 : PySem.W.nsIn K mainGlobals "str" = some none)
    (z9 : PySem.W.nsIn K mainGlobals "dict" = some none)
    (z10 : PySem.W.nsIn K mainGlobals "set" = some none)
    (z11 : PySem.W.nsIn K mainGlobals "isinstance" = some none)
    (z12 : PySem.W.nsIn K mainGlobals "sum" = some none)
    (z13 : PySem.W.nsIn K mainGlobals "min" = some none)
    (z14 : PySem.W.nsIn K mainGlobals "max" = some none)
    (z15 : PySem.W.nsIn K mainGlobals "enumerate" = some none)
    (z16 : PySem.W.nsIn K mainGlobals "zip" = some none)
    (z17 : PySem.W.nsIn K mainGlobals "any" = some none)
    (z18 : PySem.W.nsIn K mainGlobals "all" = some none)
    (z19 : PySem.W.nsIn K mainGlobals "abs" = some none)
    (z20 : PySem.W.nsIn K mainGlobals "reversed" = some none)
    {kc_DEEPEST : Tok} (c_DEEPEST : PySem.W.nsIn K mainGlobals "DEEPEST" = some (some (.int 20 kc_DEEPEST)))
    {kc_GREATEST_VALUE : Tok} (c_GREATEST_VALUE : PySem.W.nsIn K mainGlobals "GREATEST_VALUE" = some (some (.int 999999999999999 kc_GREATEST_VALUE)))
    {kc_LONGEST_SPAN : Tok} (c_LONGEST_SPAN : PySem.W.nsIn K mainGlobals "LONGEST_SPAN" = some (some (.int 1000 kc_LONGEST_SPAN)))
    {kc_LONGEST_TEXT : Tok} (c_LONGEST_TEXT : PySem.W.nsIn K mainGlobals "LONGEST_TEXT" = some (some (.int 300 kc_LONGEST_TEXT)))
    {kc_LONGEST_WORD : Tok} (c_LONGEST_WORD : PySem.W.nsIn K mainGlobals "LONGEST_WORD" = some (some (.int 20 kc_LONGEST_WORD)))
    {kc_MOST_MATCHERS : Tok} (c_MOST_MATCHERS : PySem.W.nsIn K mainGlobals "MOST_MATCHERS" = some (some (.int 6 kc_MOST_MATCHERS)))
    {kc_MOST_NAMES : Tok} (c_MOST_NAMES : PySem.W.nsIn K mainGlobals "MOST_NAMES" = some (some (.int 6 kc_MOST_NAMES)))
    {kc_MOST_OPERATORS : Tok} (c_MOST_OPERATORS : PySem.W.nsIn K mainGlobals "MOST_OPERATORS" = some (some (.int 8 kc_MOST_OPERATORS)))
    {kc_MOST_SELECTORS : Tok} (c_MOST_SELECTORS : PySem.W.nsIn K mainGlobals "MOST_SELECTORS" = some (some (.int 6 kc_MOST_SELECTORS)))
    {kc_MOST_VALUES : Tok} (c_MOST_VALUES : PySem.W.nsIn K mainGlobals "MOST_VALUES" = some (some (.int 6 kc_MOST_VALUES)))
    {kc_BLANKS : Tok} (c_BLANKS : PySem.W.nsIn K mainGlobals "BLANKS" = some (some (.str (BLc) kc_BLANKS)))
    {kc_CHARACTERS : Tok} (c_CHARACTERS : PySem.W.nsIn K mainGlobals "CHARACTERS" = some (some (.str (CHc) kc_CHARACTERS)))
    {kc_DIGITS : Tok} (c_DIGITS : PySem.W.nsIn K mainGlobals "DIGITS" = some (some (.str (DGc) kc_DIGITS)))
    {kc_LETTERS : Tok} (c_LETTERS : PySem.W.nsIn K mainGlobals "LETTERS" = some (some (.str (LEc) kc_LETTERS)))
    {kc_QUOTE : Tok} (c_QUOTE : PySem.W.nsIn K mainGlobals "QUOTE" = some (some (.str (QUc) kc_QUOTE)))
    {U_AGGREGATE_WORDS : Addr} {ud_AGGREGATE_WORDS : Option Addr} {un_AGGREGATE_WORDS : Nat} {ul_AGGREGATE_WORDS : Array (Option Value)} {uk0_AGGREGATE_WORDS uk1_AGGREGATE_WORDS uk2_AGGREGATE_WORDS uk3_AGGREGATE_WORDS : Tok}
    (ua_AGGREGATE_WORDS : PySem.W.nsIn K mainGlobals "AGGREGATE_WORDS" = some (some (.ref U_AGGREGATE_WORDS)))
    (ub_AGGREGATE_WORDS : K.lookup U_AGGREGATE_WORDS = some ⟨.type "tuple", ud_AGGREGATE_WORDS, .seq #[.str "sum" uk0_AGGREGATE_WORDS, .str "min" uk1_AGGREGATE_WORDS, .str "max" uk2_AGGREGATE_WORDS, .str "count" uk3_AGGREGATE_WORDS] un_AGGREGATE_WORDS, ul_AGGREGATE_WORDS⟩)
    {U_ARITHMETIC_SIGNS : Addr} {ud_ARITHMETIC_SIGNS : Option Addr} {un_ARITHMETIC_SIGNS : Nat} {ul_ARITHMETIC_SIGNS : Array (Option Value)} {uk0_ARITHMETIC_SIGNS uk1_ARITHMETIC_SIGNS uk2_ARITHMETIC_SIGNS : Tok}
    (ua_ARITHMETIC_SIGNS : PySem.W.nsIn K mainGlobals "ARITHMETIC_SIGNS" = some (some (.ref U_ARITHMETIC_SIGNS)))
    (ub_ARITHMETIC_SIGNS : K.lookup U_ARITHMETIC_SIGNS = some ⟨.type "tuple", ud_ARITHMETIC_SIGNS, .seq #[.str "+" uk0_ARITHMETIC_SIGNS, .str "-" uk1_ARITHMETIC_SIGNS, .str "*" uk2_ARITHMETIC_SIGNS] un_ARITHMETIC_SIGNS, ul_ARITHMETIC_SIGNS⟩)
    {U_JOINING_SIGNS : Addr} {ud_JOINING_SIGNS : Option Addr} {un_JOINING_SIGNS : Nat} {ul_JOINING_SIGNS : Array (Option Value)} {uk0_JOINING_SIGNS uk1_JOINING_SIGNS uk2_JOINING_SIGNS : Tok}
    (ua_JOINING_SIGNS : PySem.W.nsIn K mainGlobals "JOINING_SIGNS" = some (some (.ref U_JOINING_SIGNS)))
    (ub_JOINING_SIGNS : K.lookup U_JOINING_SIGNS = some ⟨.type "tuple", ud_JOINING_SIGNS, .seq #[.str "or" uk0_JOINING_SIGNS, .str "and" uk1_JOINING_SIGNS, .str "unless" uk2_JOINING_SIGNS] un_JOINING_SIGNS, ul_JOINING_SIGNS⟩)
    {U_OPERAND_ENDS : Addr} {ud_OPERAND_ENDS : Option Addr} {un_OPERAND_ENDS : Nat} {ul_OPERAND_ENDS : Array (Option Value)} {uk0_OPERAND_ENDS uk1_OPERAND_ENDS uk2_OPERAND_ENDS uk3_OPERAND_ENDS : Tok}
    (ua_OPERAND_ENDS : PySem.W.nsIn K mainGlobals "OPERAND_ENDS" = some (some (.ref U_OPERAND_ENDS)))
    (ub_OPERAND_ENDS : K.lookup U_OPERAND_ENDS = some ⟨.type "tuple", ud_OPERAND_ENDS, .seq #[.str "operand_end" uk0_OPERAND_ENDS, .str "metric" uk1_OPERAND_ENDS, .str "over_word" uk2_OPERAND_ENDS, .str "aggregate_word" uk3_OPERAND_ENDS] un_OPERAND_ENDS, ul_OPERAND_ENDS⟩)
    {U_OVER_WORDS : Addr} {ud_OVER_WORDS : Option Addr} {un_OVER_WORDS : Nat} {ul_OVER_WORDS : Array (Option Value)} {uk0_OVER_WORDS uk1_OVER_WORDS uk2_OVER_WORDS uk3_OVER_WORDS uk4_OVER_WORDS uk5_OVER_WORDS : Tok}
    (ua_OVER_WORDS : PySem.W.nsIn K mainGlobals "OVER_WORDS" = some (some (.ref U_OVER_WORDS)))
    (ub_OVER_WORDS : K.lookup U_OVER_WORDS = some ⟨.type "tuple", ud_OVER_WORDS, .seq #[.str "sum_over" uk0_OVER_WORDS, .str "min_over" uk1_OVER_WORDS, .str "max_over" uk2_OVER_WORDS, .str "count_over" uk3_OVER_WORDS, .str "last_over" uk4_OVER_WORDS, .str "increase" uk5_OVER_WORDS] un_OVER_WORDS, ul_OVER_WORDS⟩)
    {U_SYMBOLS : Addr} {ud_SYMBOLS : Option Addr} {un_SYMBOLS : Nat} {ul_SYMBOLS : Array (Option Value)} {uk0_SYMBOLS uk1_SYMBOLS uk2_SYMBOLS uk3_SYMBOLS uk4_SYMBOLS uk5_SYMBOLS uk6_SYMBOLS uk7_SYMBOLS uk8_SYMBOLS uk9_SYMBOLS uk10_SYMBOLS uk11_SYMBOLS uk12_SYMBOLS uk13_SYMBOLS uk14_SYMBOLS uk15_SYMBOLS uk16_SYMBOLS : Tok}
    (ua_SYMBOLS : PySem.W.nsIn K mainGlobals "SYMBOLS" = some (some (.ref U_SYMBOLS)))
    (ub_SYMBOLS : K.lookup U_SYMBOLS = some ⟨.type "tuple", ud_SYMBOLS, .seq #[.str "(" uk0_SYMBOLS, .str ")" uk1_SYMBOLS, .str "{" uk2_SYMBOLS, .str "}" uk3_SYMBOLS, .str "[" uk4_SYMBOLS, .str "]" uk5_SYMBOLS, .str "," uk6_SYMBOLS, .str "=" uk7_SYMBOLS, .str "!=" uk8_SYMBOLS, .str "==" uk9_SYMBOLS, .str "<" uk10_SYMBOLS, .str "<=" uk11_SYMBOLS, .str ">" uk12_SYMBOLS, .str ">=" uk13_SYMBOLS, .str "+" uk14_SYMBOLS, .str "-" uk15_SYMBOLS, .str "*" uk16_SYMBOLS] un_SYMBOLS, ul_SYMBOLS⟩)
    {D_PARTS_TAKEN : Addr} {des_PARTS_TAKEN : Array DictEntry} {dn_PARTS_TAKEN : Nat} {dk0_PARTS_TAKEN dk1_PARTS_TAKEN : Tok}
    (da_PARTS_TAKEN : PySem.W.nsIn K mainGlobals "PARTS_TAKEN" = some (some (.ref D_PARTS_TAKEN)))
    (db_PARTS_TAKEN : K.lookup D_PARTS_TAKEN = some ⟨.type "dict", none, .dict des_PARTS_TAKEN dn_PARTS_TAKEN, #[]⟩)
    (dc_PARTS_TAKEN : PySem.W.KeysLit w.params des_PARTS_TAKEN.toList)
    (dl_PARTS_TAKEN : (D_PARTS_TAKEN == sysModules) = false)
    (dv0_PARTS_TAKEN : PySem.W.nsIn K D_PARTS_TAKEN "binary" = some (some (.int 2 dk0_PARTS_TAKEN)))
    (dv1_PARTS_TAKEN : PySem.W.nsIn K D_PARTS_TAKEN "aggregate" = some (some (.int 1 dk1_PARTS_TAKEN)))
    (dm0_PARTS_TAKEN : PySem.W.nsIn K D_PARTS_TAKEN "number" = some none)
    (dm1_PARTS_TAKEN : PySem.W.nsIn K D_PARTS_TAKEN "latest" = some none)
    (dm2_PARTS_TAKEN : PySem.W.nsIn K D_PARTS_TAKEN "over" = some none)
    (wa_Reader : PySem.W.nsIn K mainGlobals "Reader" = some (some (.ref K_Reader)))
    (xq_wg_Reader : PySem.W.plainGet K K_Reader Str.empty = true)
    (xq_wh_Reader : PySem.W.hasDictIn K K_Reader = true)
    (xq_wp_Reader : PySem.W.plainOver K K_Reader = true)
    (ws_Reader : PySem.W.findIn K (.ref K_Reader) "__setattr__" = some (some (.builtin "object.__setattr__")))
    (xq_wm_Reader : PySem.W.makesIn K K_Reader = true)
    (wk_Reader : PySem.W.keepIn K (.ref K_Reader) = true)
    (wa_Walk : PySem.W.nsIn K mainGlobals "Walk" = some (some (.ref K_Walk)))
    (xq_wg_Walk : PySem.W.plainGet K K_Walk Str.empty = true)
    (xq_wh_Walk : PySem.W.hasDictIn K K_Walk = true)
    (xq_wp_Walk : PySem.W.plainOver K K_Walk = true)
    (ws_Walk : PySem.W.findIn K (.ref K_Walk) "__setattr__" = some (some (.builtin "object.__setattr__")))
    (xq_wm_Walk : PySem.W.makesIn K K_Walk = true)
    (wk_Walk : PySem.W.keepIn K (.ref K_Walk) = true)
    (wn_Reader_at : PySem.W.findIn K (.ref K_Reader) "at" = some none)
    (wn_Reader_found : PySem.W.findIn K (.ref K_Reader) "found" = some none)
    (wn_Reader_marks : PySem.W.findIn K (.ref K_Reader) "marks" = some none)
    (wn_Walk_depth : PySem.W.findIn K (.ref K_Walk) "depth" = some none)
    (wn_Walk_in_range : PySem.W.findIn K (.ref K_Walk) "in_range" = some none)
    (wn_Walk_state : PySem.W.findIn K (.ref K_Walk) "state" = some none)
    {D_STRENGTHS : Addr} {dn_STRENGTHS : Nat} {lt0_STRENGTHS lt1_STRENGTHS lt2_STRENGTHS lt3_STRENGTHS lt4_STRENGTHS lt5_STRENGTHS lt6_STRENGTHS lt7_STRENGTHS lt8_STRENGTHS lt9_STRENGTHS lt10_STRENGTHS lt11_STRENGTHS : Tok} {lh0_STRENGTHS lh1_STRENGTHS lh2_STRENGTHS lh3_STRENGTHS lh4_STRENGTHS lh5_STRENGTHS lh6_STRENGTHS lh7_STRENGTHS lh8_STRENGTHS lh9_STRENGTHS lh10_STRENGTHS lh11_STRENGTHS : Int} {lv0_STRENGTHS lv1_STRENGTHS lv2_STRENGTHS lv3_STRENGTHS lv4_STRENGTHS lv5_STRENGTHS lv6_STRENGTHS lv7_STRENGTHS lv8_STRENGTHS lv9_STRENGTHS lv10_STRENGTHS lv11_STRENGTHS : Value}
    (da_STRENGTHS : PySem.W.nsIn K mainGlobals "STRENGTHS" = some (some (.ref D_STRENGTHS)))
    (db_STRENGTHS : K.lookup D_STRENGTHS = some ⟨.type "dict", none, .dict #[⟨lh0_STRENGTHS, .str "or" lt0_STRENGTHS, lv0_STRENGTHS⟩, ⟨lh1_STRENGTHS, .str "and" lt1_STRENGTHS, lv1_STRENGTHS⟩, ⟨lh2_STRENGTHS, .str "unless" lt2_STRENGTHS, lv2_STRENGTHS⟩, ⟨lh3_STRENGTHS, .str "<" lt3_STRENGTHS, lv3_STRENGTHS⟩, ⟨lh4_STRENGTHS, .str "<=" lt4_STRENGTHS, lv4_STRENGTHS⟩, ⟨lh5_STRENGTHS, .str ">" lt5_STRENGTHS, lv5_STRENGTHS⟩, ⟨lh6_STRENGTHS, .str ">=" lt6_STRENGTHS, lv6_STRENGTHS⟩, ⟨lh7_STRENGTHS, .str "==" lt7_STRENGTHS, lv7_STRENGTHS⟩, ⟨lh8_STRENGTHS, .str "!=" lt8_STRENGTHS, lv8_STRENGTHS⟩, ⟨lh9_STRENGTHS, .str "+" lt9_STRENGTHS, lv9_STRENGTHS⟩, ⟨lh10_STRENGTHS, .str "-" lt10_STRENGTHS, lv10_STRENGTHS⟩, ⟨lh11_STRENGTHS, .str "*" lt11_STRENGTHS, lv11_STRENGTHS⟩] dn_STRENGTHS, #[]⟩)
    (dl_STRENGTHS : (D_STRENGTHS == sysModules) = false)
    {dk0_STRENGTHS dk1_STRENGTHS dk2_STRENGTHS dk3_STRENGTHS dk4_STRENGTHS dk5_STRENGTHS dk6_STRENGTHS dk7_STRENGTHS dk8_STRENGTHS dk9_STRENGTHS dk10_STRENGTHS dk11_STRENGTHS : Tok}
    (dc_STRENGTHS : PySem.W.KeysLit w.params (#[⟨lh0_STRENGTHS, .str "or" lt0_STRENGTHS, lv0_STRENGTHS⟩, ⟨lh1_STRENGTHS, .str "and" lt1_STRENGTHS, lv1_STRENGTHS⟩, ⟨lh2_STRENGTHS, .str "unless" lt2_STRENGTHS, lv2_STRENGTHS⟩, ⟨lh3_STRENGTHS, .str "<" lt3_STRENGTHS, lv3_STRENGTHS⟩, ⟨lh4_STRENGTHS, .str "<=" lt4_STRENGTHS, lv4_STRENGTHS⟩, ⟨lh5_STRENGTHS, .str ">" lt5_STRENGTHS, lv5_STRENGTHS⟩, ⟨lh6_STRENGTHS, .str ">=" lt6_STRENGTHS, lv6_STRENGTHS⟩, ⟨lh7_STRENGTHS, .str "==" lt7_STRENGTHS, lv7_STRENGTHS⟩, ⟨lh8_STRENGTHS, .str "!=" lt8_STRENGTHS, lv8_STRENGTHS⟩, ⟨lh9_STRENGTHS, .str "+" lt9_STRENGTHS, lv9_STRENGTHS⟩, ⟨lh10_STRENGTHS, .str "-" lt10_STRENGTHS, lv10_STRENGTHS⟩, ⟨lh11_STRENGTHS, .str "*" lt11_STRENGTHS, lv11_STRENGTHS⟩] : Array DictEntry).toList)
    (dv0_STRENGTHS : PySem.W.nsIn K D_STRENGTHS "or" = some (some (.int 1 dk0_STRENGTHS)))
    (dv1_STRENGTHS : PySem.W.nsIn K D_STRENGTHS "and" = some (some (.int 2 dk1_STRENGTHS)))
    (dv2_STRENGTHS : PySem.W.nsIn K D_STRENGTHS "unless" = some (some (.int 2 dk2_STRENGTHS)))
    (dv3_STRENGTHS : PySem.W.nsIn K D_STRENGTHS "<" = some (some (.int 3 dk3_STRENGTHS)))
    (dv4_STRENGTHS : PySem.W.nsIn K D_STRENGTHS "<=" = some (some (.int 3 dk4_STRENGTHS)))
    (dv5_STRENGTHS : PySem.W.nsIn K D_STRENGTHS ">" = some (some (.int 3 dk5_STRENGTHS)))
    (dv6_STRENGTHS : PySem.W.nsIn K D_STRENGTHS ">=" = some (some (.int 3 dk6_STRENGTHS)))
    (dv7_STRENGTHS : PySem.W.nsIn K D_STRENGTHS "==" = some (some (.int 3 dk7_STRENGTHS)))
    (dv8_STRENGTHS : PySem.W.nsIn K D_STRENGTHS "!=" = some (some (.int 3 dk8_STRENGTHS)))
    (dv9_STRENGTHS : PySem.W.nsIn K D_STRENGTHS "+" = some (some (.int 4 dk9_STRENGTHS)))
    (dv10_STRENGTHS : PySem.W.nsIn K D_STRENGTHS "-" = some (some (.int 4 dk10_STRENGTHS)))
    (dv11_STRENGTHS : PySem.W.nsIn K D_STRENGTHS "*" = some (some (.int 5 dk11_STRENGTHS)))
    (dm0_STRENGTHS : PySem.W.nsIn K D_STRENGTHS "" = some none)
    (dm1_STRENGTHS : PySem.W.nsIn K D_STRENGTHS ")" = some none)
    {D_NEXT_STATES : Addr} {des_NEXT_STATES : Array DictEntry} {dn_NEXT_STATES : Nat}
    (da_NEXT_STATES : PySem.W.nsIn K mainGlobals "NEXT_STATES" = some (some (.ref D_NEXT_STATES)))
    (db_NEXT_STATES : K.lookup D_NEXT_STATES = some ⟨.type "dict", none, .dict des_NEXT_STATES dn_NEXT_STATES, #[]⟩)
    (dc_NEXT_STATES : PySem.W.KeysLit w.params des_NEXT_STATES.toList)
    (dl_NEXT_STATES : (D_NEXT_STATES == sysModules) = false)
    {A0_NEXT_STATES : Addr} {na0_NEXT_STATES : Nat} {la0_NEXT_STATES : Array (Option Value)}
    {B0_0_NEXT_STATES : Addr} {ob0_0_NEXT_STATES : Option Addr} {nb0_0_NEXT_STATES : Nat} {lb0_0_NEXT_STATES : Array (Option Value)} {kt0_0_NEXT_STATES kv0_0_NEXT_STATES : Tok}
    {B1_0_NEXT_STATES : Addr} {ob1_0_NEXT_STATES : Option Addr} {nb1_0_NEXT_STATES : Nat} {lb1_0_NEXT_STATES : Array (Option Value)} {kt1_0_NEXT_STATES kv1_0_NEXT_STATES : Tok}
    {B2_0_NEXT_STATES : Addr} {ob2_0_NEXT_STATES : Option Addr} {nb2_0_NEXT_STATES : Nat} {lb2_0_NEXT_STATES : Array (Option Value)} {kt2_0_NEXT_STATES kv2_0_NEXT_STATES : Tok}
    {B3_0_NEXT_STATES : Addr} {ob3_0_NEXT_STATES : Option Addr} {nb3_0_NEXT_STATES : Nat} {lb3_0_NEXT_STATES : Array (Option Value)} {kt3_0_NEXT_STATES kv3_0_NEXT_STATES : Tok}
    (dv0_NEXT_STATES : PySem.W.nsIn K D_NEXT_STATES "operand" = some (some (.ref A0_NEXT_STATES)))
    (ta0_NEXT_STATES : K.lookup A0_NEXT_STATES = some ⟨.type "tuple", none, .seq #[.ref B0_0_NEXT_STATES, .ref B1_0_NEXT_STATES, .ref B2_0_NEXT_STATES, .ref B3_0_NEXT_STATES] na0_NEXT_STATES, la0_NEXT_STATES⟩)
    (tb0_0_NEXT_STATES : K.lookup B0_0_NEXT_STATES = some ⟨.type "tuple", ob0_0_NEXT_STATES, .seq #[.str "NUMBER" kt0_0_NEXT_STATES, .str "operand_end" kv0_0_NEXT_STATES] nb0_0_NEXT_STATES, lb0_0_NEXT_STATES⟩)
    (tb1_0_NEXT_STATES : K.lookup B1_0_NEXT_STATES = some ⟨.type "tuple", ob1_0_NEXT_STATES, .seq #[.str "-" kt1_0_NEXT_STATES, .str "minus" kv1_0_NEXT_STATES] nb1_0_NEXT_STATES, lb1_0_NEXT_STATES⟩)
    (tb2_0_NEXT_STATES : K.lookup B2_0_NEXT_STATES = some ⟨.type "tuple", ob2_0_NEXT_STATES, .seq #[.str "(" kt2_0_NEXT_STATES, .str "operand" kv2_0_NEXT_STATES] nb2_0_NEXT_STATES, lb2_0_NEXT_STATES⟩)
    (tb3_0_NEXT_STATES : K.lookup B3_0_NEXT_STATES = some ⟨.type "tuple", ob3_0_NEXT_STATES, .seq #[.str "NAME" kt3_0_NEXT_STATES, .str "metric" kv3_0_NEXT_STATES] nb3_0_NEXT_STATES, lb3_0_NEXT_STATES⟩)
    {A1_NEXT_STATES : Addr} {na1_NEXT_STATES : Nat} {la1_NEXT_STATES : Array (Option Value)}
    {B0_1_NEXT_STATES : Addr} {ob0_1_NEXT_STATES : Option Addr} {nb0_1_NEXT_STATES : Nat} {lb0_1_NEXT_STATES : Array (Option Value)} {kt0_1_NEXT_STATES kv0_1_NEXT_STATES : Tok}
    (dv1_NEXT_STATES : PySem.W.nsIn K D_NEXT_STATES "minus" = some (some (.ref A1_NEXT_STATES)))
    (ta1_NEXT_STATES : K.lookup A1_NEXT_STATES = some ⟨.type "tuple", none, .seq #[.ref B0_1_NEXT_STATES] na1_NEXT_STATES, la1_NEXT_STATES⟩)
    (tb0_1_NEXT_STATES : K.lookup B0_1_NEXT_STATES = some ⟨.type "tuple", ob0_1_NEXT_STATES, .seq #[.str "NUMBER" kt0_1_NEXT_STATES, .str "operand_end" kv0_1_NEXT_STATES] nb0_1_NEXT_STATES, lb0_1_NEXT_STATES⟩)
    {A2_NEXT_STATES : Addr} {na2_NEXT_STATES : Nat} {la2_NEXT_STATES : Array (Option Value)}
    {B0_2_NEXT_STATES : Addr} {ob0_2_NEXT_STATES : Option Addr} {nb0_2_NEXT_STATES : Nat} {lb0_2_NEXT_STATES : Array (Option Value)} {kt0_2_NEXT_STATES kv0_2_NEXT_STATES : Tok}
    (dv2_NEXT_STATES : PySem.W.nsIn K D_NEXT_STATES "metric" = some (some (.ref A2_NEXT_STATES)))
    (ta2_NEXT_STATES : K.lookup A2_NEXT_STATES = some ⟨.type "tuple", none, .seq #[.ref B0_2_NEXT_STATES] na2_NEXT_STATES, la2_NEXT_STATES⟩)
    (tb0_2_NEXT_STATES : K.lookup B0_2_NEXT_STATES = some ⟨.type "tuple", ob0_2_NEXT_STATES, .seq #[.str "{" kt0_2_NEXT_STATES, .str "first_label" kv0_2_NEXT_STATES] nb0_2_NEXT_STATES, lb0_2_NEXT_STATES⟩)
    {A3_NEXT_STATES : Addr} {na3_NEXT_STATES : Nat} {la3_NEXT_STATES : Array (Option Value)}
    {B0_3_NEXT_STATES : Addr} {ob0_3_NEXT_STATES : Option Addr} {nb0_3_NEXT_STATES : Nat} {lb0_3_NEXT_STATES : Array (Option Value)} {kt0_3_NEXT_STATES kv0_3_NEXT_STATES : Tok}
    {B1_3_NEXT_STATES : Addr} {ob1_3_NEXT_STATES : Option Addr} {nb1_3_NEXT_STATES : Nat} {lb1_3_NEXT_STATES : Array (Option Value)} {kt1_3_NEXT_STATES kv1_3_NEXT_STATES : Tok}
    (dv3_NEXT_STATES : PySem.W.nsIn K D_NEXT_STATES "over_word" = some (some (.ref A3_NEXT_STATES)))
    (ta3_NEXT_STATES : K.lookup A3_NEXT_STATES = some ⟨.type "tuple", none, .seq #[.ref B0_3_NEXT_STATES, .ref B1_3_NEXT_STATES] na3_NEXT_STATES, la3_NEXT_STATES⟩)
    (tb0_3_NEXT_STATES : K.lookup B0_3_NEXT_STATES = some ⟨.type "tuple", ob0_3_NEXT_STATES, .seq #[.str "{" kt0_3_NEXT_STATES, .str "first_label" kv0_3_NEXT_STATES] nb0_3_NEXT_STATES, lb0_3_NEXT_STATES⟩)
    (tb1_3_NEXT_STATES : K.lookup B1_3_NEXT_STATES = some ⟨.type "tuple", ob1_3_NEXT_STATES, .seq #[.str "(" kt1_3_NEXT_STATES, .str "range" kv1_3_NEXT_STATES] nb1_3_NEXT_STATES, lb1_3_NEXT_STATES⟩)
    {A4_NEXT_STATES : Addr} {na4_NEXT_STATES : Nat} {la4_NEXT_STATES : Array (Option Value)}
    {B0_4_NEXT_STATES : Addr} {ob0_4_NEXT_STATES : Option Addr} {nb0_4_NEXT_STATES : Nat} {lb0_4_NEXT_STATES : Array (Option Value)} {kt0_4_NEXT_STATES kv0_4_NEXT_STATES : Tok}
    {B1_4_NEXT_STATES : Addr} {ob1_4_NEXT_STATES : Option Addr} {nb1_4_NEXT_STATES : Nat} {lb1_4_NEXT_STATES : Array (Option Value)} {kt1_4_NEXT_STATES kv1_4_NEXT_STATES : Tok}
    {B2_4_NEXT_STATES : Addr} {ob2_4_NEXT_STATES : Option Addr} {nb2_4_NEXT_STATES : Nat} {lb2_4_NEXT_STATES : Array (Option Value)} {kt2_4_NEXT_STATES kv2_4_NEXT_STATES : Tok}
    (dv4_NEXT_STATES : PySem.W.nsIn K D_NEXT_STATES "aggregate_word" = some (some (.ref A4_NEXT_STATES)))
    (ta4_NEXT_STATES : K.lookup A4_NEXT_STATES = some ⟨.type "tuple", none, .seq #[.ref B0_4_NEXT_STATES, .ref B1_4_NEXT_STATES, .ref B2_4_NEXT_STATES] na4_NEXT_STATES, la4_NEXT_STATES⟩)
    (tb0_4_NEXT_STATES : K.lookup B0_4_NEXT_STATES = some ⟨.type "tuple", ob0_4_NEXT_STATES, .seq #[.str "{" kt0_4_NEXT_STATES, .str "first_label" kv0_4_NEXT_STATES] nb0_4_NEXT_STATES, lb0_4_NEXT_STATES⟩)
    (tb1_4_NEXT_STATES : K.lookup B1_4_NEXT_STATES = some ⟨.type "tuple", ob1_4_NEXT_STATES, .seq #[.str "(" kt1_4_NEXT_STATES, .str "operand" kv1_4_NEXT_STATES] nb1_4_NEXT_STATES, lb1_4_NEXT_STATES⟩)
    (tb2_4_NEXT_STATES : K.lookup B2_4_NEXT_STATES = some ⟨.type "tuple", ob2_4_NEXT_STATES, .seq #[.str "by" kt2_4_NEXT_STATES, .str "by" kv2_4_NEXT_STATES] nb2_4_NEXT_STATES, lb2_4_NEXT_STATES⟩)
    {A5_NEXT_STATES : Addr} {na5_NEXT_STATES : Nat} {la5_NEXT_STATES : Array (Option Value)}
    (dv5_NEXT_STATES : PySem.W.nsIn K D_NEXT_STATES "operand_end" = some (some (.ref A5_NEXT_STATES)))
    (ta5_NEXT_STATES : K.lookup A5_NEXT_STATES = some ⟨.type "tuple", none, .seq #[] na5_NEXT_STATES, la5_NEXT_STATES⟩)
    {A6_NEXT_STATES : Addr} {na6_NEXT_STATES : Nat} {la6_NEXT_STATES : Array (Option Value)}
    {B0_6_NEXT_STATES : Addr} {ob0_6_NEXT_STATES : Option Addr} {nb0_6_NEXT_STATES : Nat} {lb0_6_NEXT_STATES : Array (Option Value)} {kt0_6_NEXT_STATES kv0_6_NEXT_STATES : Tok}
    {B1_6_NEXT_STATES : Addr} {ob1_6_NEXT_STATES : Option Addr} {nb1_6_NEXT_STATES : Nat} {lb1_6_NEXT_STATES : Array (Option Value)} {kt1_6_NEXT_STATES kv1_6_NEXT_STATES : Tok}
    (dv6_NEXT_STATES : PySem.W.nsIn K D_NEXT_STATES "first_label" = some (some (.ref A6_NEXT_STATES)))
    (ta6_NEXT_STATES : K.lookup A6_NEXT_STATES = some ⟨.type "tuple", none, .seq #[.ref B0_6_NEXT_STATES, .ref B1_6_NEXT_STATES] na6_NEXT_STATES, la6_NEXT_STATES⟩)
    (tb0_6_NEXT_STATES : K.lookup B0_6_NEXT_STATES = some ⟨.type "tuple", ob0_6_NEXT_STATES, .seq #[.str "LABEL" kt0_6_NEXT_STATES, .str "test" kv0_6_NEXT_STATES] nb0_6_NEXT_STATES, lb0_6_NEXT_STATES⟩)
    (tb1_6_NEXT_STATES : K.lookup B1_6_NEXT_STATES = some ⟨.type "tuple", ob1_6_NEXT_STATES, .seq #[.str "}" kt1_6_NEXT_STATES, .str "selector_end" kv1_6_NEXT_STATES] nb1_6_NEXT_STATES, lb1_6_NEXT_STATES⟩)
    {A7_NEXT_STATES : Addr} {na7_NEXT_STATES : Nat} {la7_NEXT_STATES : Array (Option Value)}
    {B0_7_NEXT_STATES : Addr} {ob0_7_NEXT_STATES : Option Addr} {nb0_7_NEXT_STATES : Nat} {lb0_7_NEXT_STATES : Array (Option Value)} {kt0_7_NEXT_STATES kv0_7_NEXT_STATES : Tok}
    (dv7_NEXT_STATES : PySem.W.nsIn K D_NEXT_STATES "label" = some (some (.ref A7_NEXT_STATES)))
    (ta7_NEXT_STATES : K.lookup A7_NEXT_STATES = some ⟨.type "tuple", none, .seq #[.ref B0_7_NEXT_STATES] na7_NEXT_STATES, la7_NEXT_STATES⟩)
    (tb0_7_NEXT_STATES : K.lookup B0_7_NEXT_STATES = some ⟨.type "tuple", ob0_7_NEXT_STATES, .seq #[.str "LABEL" kt0_7_NEXT_STATES, .str "test" kv0_7_NEXT_STATES] nb0_7_NEXT_STATES, lb0_7_NEXT_STATES⟩)
    {A8_NEXT_STATES : Addr} {na8_NEXT_STATES : Nat} {la8_NEXT_STATES : Array (Option Value)}
    {B0_8_NEXT_STATES : Addr} {ob0_8_NEXT_STATES : Option Addr} {nb0_8_NEXT_STATES : Nat} {lb0_8_NEXT_STATES : Array (Option Value)} {kt0_8_NEXT_STATES kv0_8_NEXT_STATES : Tok}
    {B1_8_NEXT_STATES : Addr} {ob1_8_NEXT_STATES : Option Addr} {nb1_8_NEXT_STATES : Nat} {lb1_8_NEXT_STATES : Array (Option Value)} {kt1_8_NEXT_STATES kv1_8_NEXT_STATES : Tok}
    {B2_8_NEXT_STATES : Addr} {ob2_8_NEXT_STATES : Option Addr} {nb2_8_NEXT_STATES : Nat} {lb2_8_NEXT_STATES : Array (Option Value)} {kt2_8_NEXT_STATES kv2_8_NEXT_STATES : Tok}
    {B3_8_NEXT_STATES : Addr} {ob3_8_NEXT_STATES : Option Addr} {nb3_8_NEXT_STATES : Nat} {lb3_8_NEXT_STATES : Array (Option Value)} {kt3_8_NEXT_STATES kv3_8_NEXT_STATES : Tok}
    (dv8_NEXT_STATES : PySem.W.nsIn K D_NEXT_STATES "test" = some (some (.ref A8_NEXT_STATES)))
    (ta8_NEXT_STATES : K.lookup A8_NEXT_STATES = some ⟨.type "tuple", none, .seq #[.ref B0_8_NEXT_STATES, .ref B1_8_NEXT_STATES, .ref B2_8_NEXT_STATES, .ref B3_8_NEXT_STATES] na8_NEXT_STATES, la8_NEXT_STATES⟩)
    (tb0_8_NEXT_STATES : K.lookup B0_8_NEXT_STATES = some ⟨.type "tuple", ob0_8_NEXT_STATES, .seq #[.str "=" kt0_8_NEXT_STATES, .str "value" kv0_8_NEXT_STATES] nb0_8_NEXT_STATES, lb0_8_NEXT_STATES⟩)
    (tb1_8_NEXT_STATES : K.lookup B1_8_NEXT_STATES = some ⟨.type "tuple", ob1_8_NEXT_STATES, .seq #[.str "!=" kt1_8_NEXT_STATES, .str "value" kv1_8_NEXT_STATES] nb1_8_NEXT_STATES, lb1_8_NEXT_STATES⟩)
    (tb2_8_NEXT_STATES : K.lookup B2_8_NEXT_STATES = some ⟨.type "tuple", ob2_8_NEXT_STATES, .seq #[.str "in" kt2_8_NEXT_STATES, .str "in" kv2_8_NEXT_STATES] nb2_8_NEXT_STATES, lb2_8_NEXT_STATES⟩)
    (tb3_8_NEXT_STATES : K.lookup B3_8_NEXT_STATES = some ⟨.type "tuple", ob3_8_NEXT_STATES, .seq #[.str "not" kt3_8_NEXT_STATES, .str "not" kv3_8_NEXT_STATES] nb3_8_NEXT_STATES, lb3_8_NEXT_STATES⟩)
    {A9_NEXT_STATES : Addr} {na9_NEXT_STATES : Nat} {la9_NEXT_STATES : Array (Option Value)}
    {B0_9_NEXT_STATES : Addr} {ob0_9_NEXT_STATES : Option Addr} {nb0_9_NEXT_STATES : Nat} {lb0_9_NEXT_STATES : Array (Option Value)} {kt0_9_NEXT_STATES kv0_9_NEXT_STATES : Tok}
    (dv9_NEXT_STATES : PySem.W.nsIn K D_NEXT_STATES "not" = some (some (.ref A9_NEXT_STATES)))
    (ta9_NEXT_STATES : K.lookup A9_NEXT_STATES = some ⟨.type "tuple", none, .seq #[.ref B0_9_NEXT_STATES] na9_NEXT_STATES, la9_NEXT_STATES⟩)
    (tb0_9_NEXT_STATES : K.lookup B0_9_NEXT_STATES = some ⟨.type "tuple", ob0_9_NEXT_STATES, .seq #[.str "in" kt0_9_NEXT_STATES, .str "in" kv0_9_NEXT_STATES] nb0_9_NEXT_STATES, lb0_9_NEXT_STATES⟩)
    {A10_NEXT_STATES : Addr} {na10_NEXT_STATES : Nat} {la10_NEXT_STATES : Array (Option Value)}
    {B0_10_NEXT_STATES : Addr} {ob0_10_NEXT_STATES : Option Addr} {nb0_10_NEXT_STATES : Nat} {lb0_10_NEXT_STATES : Array (Option Value)} {kt0_10_NEXT_STATES kv0_10_NEXT_STATES : Tok}
    (dv10_NEXT_STATES : PySem.W.nsIn K D_NEXT_STATES "in" = some (some (.ref A10_NEXT_STATES)))
    (ta10_NEXT_STATES : K.lookup A10_NEXT_STATES = some ⟨.type "tuple", none, .seq #[.ref B0_10_NEXT_STATES] na10_NEXT_STATES, la10_NEXT_STATES⟩)
    (tb0_10_NEXT_STATES : K.lookup B0_10_NEXT_STATES = some ⟨.type "tuple", ob0_10_NEXT_STATES, .seq #[.str "(" kt0_10_NEXT_STATES, .str "values" kv0_10_NEXT_STATES] nb0_10_NEXT_STATES, lb0_10_NEXT_STATES⟩)
    {A11_NEXT_STATES : Addr} {na11_NEXT_STATES : Nat} {la11_NEXT_STATES : Array (Option Value)}
    {B0_11_NEXT_STATES : Addr} {ob0_11_NEXT_STATES : Option Addr} {nb0_11_NEXT_STATES : Nat} {lb0_11_NEXT_STATES : Array (Option Value)} {kt0_11_NEXT_STATES kv0_11_NEXT_STATES : Tok}
    (dv11_NEXT_STATES : PySem.W.nsIn K D_NEXT_STATES "value" = some (some (.ref A11_NEXT_STATES)))
    (ta11_NEXT_STATES : K.lookup A11_NEXT_STATES = some ⟨.type "tuple", none, .seq #[.ref B0_11_NEXT_STATES] na11_NEXT_STATES, la11_NEXT_STATES⟩)
    (tb0_11_NEXT_STATES : K.lookup B0_11_NEXT_STATES = some ⟨.type "tuple", ob0_11_NEXT_STATES, .seq #[.str "STRING" kt0_11_NEXT_STATES, .str "matcher_end" kv0_11_NEXT_STATES] nb0_11_NEXT_STATES, lb0_11_NEXT_STATES⟩)
    {A12_NEXT_STATES : Addr} {na12_NEXT_STATES : Nat} {la12_NEXT_STATES : Array (Option Value)}
    {B0_12_NEXT_STATES : Addr} {ob0_12_NEXT_STATES : Option Addr} {nb0_12_NEXT_STATES : Nat} {lb0_12_NEXT_STATES : Array (Option Value)} {kt0_12_NEXT_STATES kv0_12_NEXT_STATES : Tok}
    (dv12_NEXT_STATES : PySem.W.nsIn K D_NEXT_STATES "values" = some (some (.ref A12_NEXT_STATES)))
    (ta12_NEXT_STATES : K.lookup A12_NEXT_STATES = some ⟨.type "tuple", none, .seq #[.ref B0_12_NEXT_STATES] na12_NEXT_STATES, la12_NEXT_STATES⟩)
    (tb0_12_NEXT_STATES : K.lookup B0_12_NEXT_STATES = some ⟨.type "tuple", ob0_12_NEXT_STATES, .seq #[.str "STRING" kt0_12_NEXT_STATES, .str "value_end" kv0_12_NEXT_STATES] nb0_12_NEXT_STATES, lb0_12_NEXT_STATES⟩)
    {A13_NEXT_STATES : Addr} {na13_NEXT_STATES : Nat} {la13_NEXT_STATES : Array (Option Value)}
    {B0_13_NEXT_STATES : Addr} {ob0_13_NEXT_STATES : Option Addr} {nb0_13_NEXT_STATES : Nat} {lb0_13_NEXT_STATES : Array (Option Value)} {kt0_13_NEXT_STATES kv0_13_NEXT_STATES : Tok}
    {B1_13_NEXT_STATES : Addr} {ob1_13_NEXT_STATES : Option Addr} {nb1_13_NEXT_STATES : Nat} {lb1_13_NEXT_STATES : Array (Option Value)} {kt1_13_NEXT_STATES kv1_13_NEXT_STATES : Tok}
    (dv13_NEXT_STATES : PySem.W.nsIn K D_NEXT_STATES "value_end" = some (some (.ref A13_NEXT_STATES)))
    (ta13_NEXT_STATES : K.lookup A13_NEXT_STATES = some ⟨.type "tuple", none, .seq #[.ref B0_13_NEXT_STATES, .ref B1_13_NEXT_STATES] na13_NEXT_STATES, la13_NEXT_STATES⟩)
    (tb0_13_NEXT_STATES : K.lookup B0_13_NEXT_STATES = some ⟨.type "tuple", ob0_13_NEXT_STATES, .seq #[.str "," kt0_13_NEXT_STATES, .str "values" kv0_13_NEXT_STATES] nb0_13_NEXT_STATES, lb0_13_NEXT_STATES⟩)
    (tb1_13_NEXT_STATES : K.lookup B1_13_NEXT_STATES = some ⟨.type "tuple", ob1_13_NEXT_STATES, .seq #[.str ")" kt1_13_NEXT_STATES, .str "matcher_end" kv1_13_NEXT_STATES] nb1_13_NEXT_STATES, lb1_13_NEXT_STATES⟩)
    {A14_NEXT_STATES : Addr} {na14_NEXT_STATES : Nat} {la14_NEXT_STATES : Array (Option Value)}
    {B0_14_NEXT_STATES : Addr} {ob0_14_NEXT_STATES : Option Addr} {nb0_14_NEXT_STATES : Nat} {lb0_14_NEXT_STATES : Array (Option Value)} {kt0_14_NEXT_STATES kv0_14_NEXT_STATES : Tok}
    {B1_14_NEXT_STATES : Addr} {ob1_14_NEXT_STATES : Option Addr} {nb1_14_NEXT_STATES : Nat} {lb1_14_NEXT_STATES : Array (Option Value)} {kt1_14_NEXT_STATES kv1_14_NEXT_STATES : Tok}
    (dv14_NEXT_STATES : PySem.W.nsIn K D_NEXT_STATES "matcher_end" = some (some (.ref A14_NEXT_STATES)))
    (ta14_NEXT_STATES : K.lookup A14_NEXT_STATES = some ⟨.type "tuple", none, .seq #[.ref B0_14_NEXT_STATES, .ref B1_14_NEXT_STATES] na14_NEXT_STATES, la14_NEXT_STATES⟩)
    (tb0_14_NEXT_STATES : K.lookup B0_14_NEXT_STATES = some ⟨.type "tuple", ob0_14_NEXT_STATES, .seq #[.str "," kt0_14_NEXT_STATES, .str "label" kv0_14_NEXT_STATES] nb0_14_NEXT_STATES, lb0_14_NEXT_STATES⟩)
    (tb1_14_NEXT_STATES : K.lookup B1_14_NEXT_STATES = some ⟨.type "tuple", ob1_14_NEXT_STATES, .seq #[.str "}" kt1_14_NEXT_STATES, .str "selector_end" kv1_14_NEXT_STATES] nb1_14_NEXT_STATES, lb1_14_NEXT_STATES⟩)
    {A15_NEXT_STATES : Addr} {na15_NEXT_STATES : Nat} {la15_NEXT_STATES : Array (Option Value)}
    {B0_15_NEXT_STATES : Addr} {ob0_15_NEXT_STATES : Option Addr} {nb0_15_NEXT_STATES : Nat} {lb0_15_NEXT_STATES : Array (Option Value)} {kt0_15_NEXT_STATES kv0_15_NEXT_STATES : Tok}
    (dv15_NEXT_STATES : PySem.W.nsIn K D_NEXT_STATES "range" = some (some (.ref A15_NEXT_STATES)))
    (ta15_NEXT_STATES : K.lookup A15_NEXT_STATES = some ⟨.type "tuple", none, .seq #[.ref B0_15_NEXT_STATES] na15_NEXT_STATES, la15_NEXT_STATES⟩)
    (tb0_15_NEXT_STATES : K.lookup B0_15_NEXT_STATES = some ⟨.type "tuple", ob0_15_NEXT_STATES, .seq #[.str "NAME" kt0_15_NEXT_STATES, .str "range_metric" kv0_15_NEXT_STATES] nb0_15_NEXT_STATES, lb0_15_NEXT_STATES⟩)
    {A16_NEXT_STATES : Addr} {na16_NEXT_STATES : Nat} {la16_NEXT_STATES : Array (Option Value)}
    {B0_16_NEXT_STATES : Addr} {ob0_16_NEXT_STATES : Option Addr} {nb0_16_NEXT_STATES : Nat} {lb0_16_NEXT_STATES : Array (Option Value)} {kt0_16_NEXT_STATES kv0_16_NEXT_STATES : Tok}
    {B1_16_NEXT_STATES : Addr} {ob1_16_NEXT_STATES : Option Addr} {nb1_16_NEXT_STATES : Nat} {lb1_16_NEXT_STATES : Array (Option Value)} {kt1_16_NEXT_STATES kv1_16_NEXT_STATES : Tok}
    (dv16_NEXT_STATES : PySem.W.nsIn K D_NEXT_STATES "range_metric" = some (some (.ref A16_NEXT_STATES)))
    (ta16_NEXT_STATES : K.lookup A16_NEXT_STATES = some ⟨.type "tuple", none, .seq #[.ref B0_16_NEXT_STATES, .ref B1_16_NEXT_STATES] na16_NEXT_STATES, la16_NEXT_STATES⟩)
    (tb0_16_NEXT_STATES : K.lookup B0_16_NEXT_STATES = some ⟨.type "tuple", ob0_16_NEXT_STATES, .seq #[.str "{" kt0_16_NEXT_STATES, .str "first_label" kv0_16_NEXT_STATES] nb0_16_NEXT_STATES, lb0_16_NEXT_STATES⟩)
    (tb1_16_NEXT_STATES : K.lookup B1_16_NEXT_STATES = some ⟨.type "tuple", ob1_16_NEXT_STATES, .seq #[.str "[" kt1_16_NEXT_STATES, .str "span" kv1_16_NEXT_STATES] nb1_16_NEXT_STATES, lb1_16_NEXT_STATES⟩)
    {A17_NEXT_STATES : Addr} {na17_NEXT_STATES : Nat} {la17_NEXT_STATES : Array (Option Value)}
    {B0_17_NEXT_STATES : Addr} {ob0_17_NEXT_STATES : Option Addr} {nb0_17_NEXT_STATES : Nat} {lb0_17_NEXT_STATES : Array (Option Value)} {kt0_17_NEXT_STATES kv0_17_NEXT_STATES : Tok}
    (dv17_NEXT_STATES : PySem.W.nsIn K D_NEXT_STATES "range_selector" = some (some (.ref A17_NEXT_STATES)))
    (ta17_NEXT_STATES : K.lookup A17_NEXT_STATES = some ⟨.type "tuple", none, .seq #[.ref B0_17_NEXT_STATES] na17_NEXT_STATES, la17_NEXT_STATES⟩)
    (tb0_17_NEXT_STATES : K.lookup B0_17_NEXT_STATES = some ⟨.type "tuple", ob0_17_NEXT_STATES, .seq #[.str "[" kt0_17_NEXT_STATES, .str "span" kv0_17_NEXT_STATES] nb0_17_NEXT_STATES, lb0_17_NEXT_STATES⟩)
    {A18_NEXT_STATES : Addr} {na18_NEXT_STATES : Nat} {la18_NEXT_STATES : Array (Option Value)}
    {B0_18_NEXT_STATES : Addr} {ob0_18_NEXT_STATES : Option Addr} {nb0_18_NEXT_STATES : Nat} {lb0_18_NEXT_STATES : Array (Option Value)} {kt0_18_NEXT_STATES kv0_18_NEXT_STATES : Tok}
    (dv18_NEXT_STATES : PySem.W.nsIn K D_NEXT_STATES "span" = some (some (.ref A18_NEXT_STATES)))
    (ta18_NEXT_STATES : K.lookup A18_NEXT_STATES = some ⟨.type "tuple", none, .seq #[.ref B0_18_NEXT_STATES] na18_NEXT_STATES, la18_NEXT_STATES⟩)
    (tb0_18_NEXT_STATES : K.lookup B0_18_NEXT_STATES = some ⟨.type "tuple", ob0_18_NEXT_STATES, .seq #[.str "NUMBER" kt0_18_NEXT_STATES, .str "span_end" kv0_18_NEXT_STATES] nb0_18_NEXT_STATES, lb0_18_NEXT_STATES⟩)
    {A19_NEXT_STATES : Addr} {na19_NEXT_STATES : Nat} {la19_NEXT_STATES : Array (Option Value)}
    {B0_19_NEXT_STATES : Addr} {ob0_19_NEXT_STATES : Option Addr} {nb0_19_NEXT_STATES : Nat} {lb0_19_NEXT_STATES : Array (Option Value)} {kt0_19_NEXT_STATES kv0_19_NEXT_STATES : Tok}
    (dv19_NEXT_STATES : PySem.W.nsIn K D_NEXT_STATES "span_end" = some (some (.ref A19_NEXT_STATES)))
    (ta19_NEXT_STATES : K.lookup A19_NEXT_STATES = some ⟨.type "tuple", none, .seq #[.ref B0_19_NEXT_STATES] na19_NEXT_STATES, la19_NEXT_STATES⟩)
    (tb0_19_NEXT_STATES : K.lookup B0_19_NEXT_STATES = some ⟨.type "tuple", ob0_19_NEXT_STATES, .seq #[.str "]" kt0_19_NEXT_STATES, .str "range_end" kv0_19_NEXT_STATES] nb0_19_NEXT_STATES, lb0_19_NEXT_STATES⟩)
    {A20_NEXT_STATES : Addr} {na20_NEXT_STATES : Nat} {la20_NEXT_STATES : Array (Option Value)}
    {B0_20_NEXT_STATES : Addr} {ob0_20_NEXT_STATES : Option Addr} {nb0_20_NEXT_STATES : Nat} {lb0_20_NEXT_STATES : Array (Option Value)} {kt0_20_NEXT_STATES kv0_20_NEXT_STATES : Tok}
    (dv20_NEXT_STATES : PySem.W.nsIn K D_NEXT_STATES "range_end" = some (some (.ref A20_NEXT_STATES)))
    (ta20_NEXT_STATES : K.lookup A20_NEXT_STATES = some ⟨.type "tuple", none, .seq #[.ref B0_20_NEXT_STATES] na20_NEXT_STATES, la20_NEXT_STATES⟩)
    (tb0_20_NEXT_STATES : K.lookup B0_20_NEXT_STATES = some ⟨.type "tuple", ob0_20_NEXT_STATES, .seq #[.str ")" kt0_20_NEXT_STATES, .str "operand_end" kv0_20_NEXT_STATES] nb0_20_NEXT_STATES, lb0_20_NEXT_STATES⟩)
    {A21_NEXT_STATES : Addr} {na21_NEXT_STATES : Nat} {la21_NEXT_STATES : Array (Option Value)}
    {B0_21_NEXT_STATES : Addr} {ob0_21_NEXT_STATES : Option Addr} {nb0_21_NEXT_STATES : Nat} {lb0_21_NEXT_STATES : Array (Option Value)} {kt0_21_NEXT_STATES kv0_21_NEXT_STATES : Tok}
    (dv21_NEXT_STATES : PySem.W.nsIn K D_NEXT_STATES "by" = some (some (.ref A21_NEXT_STATES)))
    (ta21_NEXT_STATES : K.lookup A21_NEXT_STATES = some ⟨.type "tuple", none, .seq #[.ref B0_21_NEXT_STATES] na21_NEXT_STATES, la21_NEXT_STATES⟩)
    (tb0_21_NEXT_STATES : K.lookup B0_21_NEXT_STATES = some ⟨.type "tuple", ob0_21_NEXT_STATES, .seq #[.str "(" kt0_21_NEXT_STATES, .str "first_name" kv0_21_NEXT_STATES] nb0_21_NEXT_STATES, lb0_21_NEXT_STATES⟩)
    {A22_NEXT_STATES : Addr} {na22_NEXT_STATES : Nat} {la22_NEXT_STATES : Array (Option Value)}
    {B0_22_NEXT_STATES : Addr} {ob0_22_NEXT_STATES : Option Addr} {nb0_22_NEXT_STATES : Nat} {lb0_22_NEXT_STATES : Array (Option Value)} {kt0_22_NEXT_STATES kv0_22_NEXT_STATES : Tok}
    {B1_22_NEXT_STATES : Addr} {ob1_22_NEXT_STATES : Option Addr} {nb1_22_NEXT_STATES : Nat} {lb1_22_NEXT_STATES : Array (Option Value)} {kt1_22_NEXT_STATES kv1_22_NEXT_STATES : Tok}
    (dv22_NEXT_STATES : PySem.W.nsIn K D_NEXT_STATES "first_name" = some (some (.ref A22_NEXT_STATES)))
    (ta22_NEXT_STATES : K.lookup A22_NEXT_STATES = some ⟨.type "tuple", none, .seq #[.ref B0_22_NEXT_STATES, .ref B1_22_NEXT_STATES] na22_NEXT_STATES, la22_NEXT_STATES⟩)
    (tb0_22_NEXT_STATES : K.lookup B0_22_NEXT_STATES = some ⟨.type "tuple", ob0_22_NEXT_STATES, .seq #[.str "NAME" kt0_22_NEXT_STATES, .str "name_end" kv0_22_NEXT_STATES] nb0_22_NEXT_STATES, lb0_22_NEXT_STATES⟩)
    (tb1_22_NEXT_STATES : K.lookup B1_22_NEXT_STATES = some ⟨.type "tuple", ob1_22_NEXT_STATES, .seq #[.str ")" kt1_22_NEXT_STATES, .str "inner" kv1_22_NEXT_STATES] nb1_22_NEXT_STATES, lb1_22_NEXT_STATES⟩)
    {A23_NEXT_STATES : Addr} {na23_NEXT_STATES : Nat} {la23_NEXT_STATES : Array (Option Value)}
    {B0_23_NEXT_STATES : Addr} {ob0_23_NEXT_STATES : Option Addr} {nb0_23_NEXT_STATES : Nat} {lb0_23_NEXT_STATES : Array (Option Value)} {kt0_23_NEXT_STATES kv0_23_NEXT_STATES : Tok}
    (dv23_NEXT_STATES : PySem.W.nsIn K D_NEXT_STATES "name" = some (some (.ref A23_NEXT_STATES)))
    (ta23_NEXT_STATES : K.lookup A23_NEXT_STATES = some ⟨.type "tuple", none, .seq #[.ref B0_23_NEXT_STATES] na23_NEXT_STATES, la23_NEXT_STATES⟩)
    (tb0_23_NEXT_STATES : K.lookup B0_23_NEXT_STATES = some ⟨.type "tuple", ob0_23_NEXT_STATES, .seq #[.str "NAME" kt0_23_NEXT_STATES, .str "name_end" kv0_23_NEXT_STATES] nb0_23_NEXT_STATES, lb0_23_NEXT_STATES⟩)
    {A24_NEXT_STATES : Addr} {na24_NEXT_STATES : Nat} {la24_NEXT_STATES : Array (Option Value)}
    {B0_24_NEXT_STATES : Addr} {ob0_24_NEXT_STATES : Option Addr} {nb0_24_NEXT_STATES : Nat} {lb0_24_NEXT_STATES : Array (Option Value)} {kt0_24_NEXT_STATES kv0_24_NEXT_STATES : Tok}
    {B1_24_NEXT_STATES : Addr} {ob1_24_NEXT_STATES : Option Addr} {nb1_24_NEXT_STATES : Nat} {lb1_24_NEXT_STATES : Array (Option Value)} {kt1_24_NEXT_STATES kv1_24_NEXT_STATES : Tok}
    (dv24_NEXT_STATES : PySem.W.nsIn K D_NEXT_STATES "name_end" = some (some (.ref A24_NEXT_STATES)))
    (ta24_NEXT_STATES : K.lookup A24_NEXT_STATES = some ⟨.type "tuple", none, .seq #[.ref B0_24_NEXT_STATES, .ref B1_24_NEXT_STATES] na24_NEXT_STATES, la24_NEXT_STATES⟩)
    (tb0_24_NEXT_STATES : K.lookup B0_24_NEXT_STATES = some ⟨.type "tuple", ob0_24_NEXT_STATES, .seq #[.str "," kt0_24_NEXT_STATES, .str "name" kv0_24_NEXT_STATES] nb0_24_NEXT_STATES, lb0_24_NEXT_STATES⟩)
    (tb1_24_NEXT_STATES : K.lookup B1_24_NEXT_STATES = some ⟨.type "tuple", ob1_24_NEXT_STATES, .seq #[.str ")" kt1_24_NEXT_STATES, .str "inner" kv1_24_NEXT_STATES] nb1_24_NEXT_STATES, lb1_24_NEXT_STATES⟩)
    {A25_NEXT_STATES : Addr} {na25_NEXT_STATES : Nat} {la25_NEXT_STATES : Array (Option Value)}
    {B0_25_NEXT_STATES : Addr} {ob0_25_NEXT_STATES : Option Addr} {nb0_25_NEXT_STATES : Nat} {lb0_25_NEXT_STATES : Array (Option Value)} {kt0_25_NEXT_STATES kv0_25_NEXT_STATES : Tok}
    (dv25_NEXT_STATES : PySem.W.nsIn K D_NEXT_STATES "inner" = some (some (.ref A25_NEXT_STATES)))
    (ta25_NEXT_STATES : K.lookup A25_NEXT_STATES = some ⟨.type "tuple", none, .seq #[.ref B0_25_NEXT_STATES] na25_NEXT_STATES, la25_NEXT_STATES⟩)
    (tb0_25_NEXT_STATES : K.lookup B0_25_NEXT_STATES = some ⟨.type "tuple", ob0_25_NEXT_STATES, .seq #[.str "(" kt0_25_NEXT_STATES, .str "operand" kv0_25_NEXT_STATES] nb0_25_NEXT_STATES, lb0_25_NEXT_STATES⟩)
    {K_BadSteps I_BadSteps K_BadExpression I_BadExpression : Addr}
    {nm_BadSteps q_BadSteps : Str} {N_BadSteps : Addr} {bs_BadSteps : List Value} {sn_BadSteps : List Str} {sub_BadSteps : List Value} {ab_BadSteps : Bool} {col_BadSteps : Option Bool} {dd_BadSteps : Option Addr} {m0_BadSteps m1_BadSteps m2_BadSteps m3_BadSteps m5_BadSteps : Option Value} {odi_BadSteps ani_BadSteps : Option Addr} {sli_BadSteps : Array (Option Value)} {oci_BadSteps kVi_BadSteps dci_BadSteps pmi_BadSteps cdi_BadSteps cti_BadSteps : Value}
    (ya_BadSteps : PySem.W.nsIn K mainGlobals "BadSteps" = some (some (.ref K_BadSteps)))
    (yL_BadSteps : K.lookup K_BadSteps = some (excClassObj nm_BadSteps q_BadSteps K_BadSteps N_BadSteps bs_BadSteps [.ref K_WatchError, .type "ValueError", .type "Exception", .type "BaseException", .type "object"] true sn_BadSteps sub_BadSteps ab_BadSteps col_BadSteps dd_BadSteps m0_BadSteps m1_BadSteps m2_BadSteps m3_BadSteps m5_BadSteps "ValueError.__new__"))
    (ys_BadSteps : PySem.W.findIn K (.ref K_BadSteps) "__setattr__" = some (some (.builtin "object.__setattr__")))
    (yn_BadSteps : PySem.W.findIn K (.ref K_BadSteps) "place" = some none)
    (yi_BadSteps : PySem.W.findIn K (.ref K_BadSteps) "__init__" = some (some (.ref I_BadSteps)))
    (yt_BadSteps : PySem.W.typeIn K (.ref I_BadSteps) = some (.type "function"))
    (yl_BadSteps : K.lookup I_BadSteps = some ⟨oci_BadSteps, odi_BadSteps, .func (PySem.W.fnOf "__init__" "BadSteps.__init__" (defArgs (s_init 3)) (defBody (s_init 3)) (defScope (s_init 3)) .none kVi_BadSteps dci_BadSteps pmi_BadSteps ani_BadSteps cdi_BadSteps cti_BadSteps), sli_BadSteps⟩)
    (yc_BadSteps : PySem.W.codeIn K cdi_BadSteps "BadSteps.__init__" = true)
    (yk_BadSteps : PySem.W.keepIn K (.ref I_BadSteps) = true)
    (yK_BadSteps : PySem.W.keepIn K (.ref K_BadSteps) = true)
    (ye_BadSteps : PySem.W.subIn K (.ref K_BadSteps) (.type "BaseException") = some true)
    (yT_BadSteps : PySem.W.typeIn K (.ref K_BadSteps) = some (.type "type"))
    {nm_BadExpression q_BadExpression : Str} {N_BadExpression : Addr} {bs_BadExpression : List Value} {sn_BadExpression : List Str} {sub_BadExpression : List Value} {ab_BadExpression : Bool} {col_BadExpression : Option Bool} {dd_BadExpression : Option Addr} {m0_BadExpression m1_BadExpression m2_BadExpression m3_BadExpression m5_BadExpression : Option Value} {odi_BadExpression ani_BadExpression : Option Addr} {sli_BadExpression : Array (Option Value)} {oci_BadExpression kVi_BadExpression dci_BadExpression pmi_BadExpression cdi_BadExpression cti_BadExpression : Value}
    (ya_BadExpression : PySem.W.nsIn K mainGlobals "BadExpression" = some (some (.ref K_BadExpression)))
    (yL_BadExpression : K.lookup K_BadExpression = some (excClassObj nm_BadExpression q_BadExpression K_BadExpression N_BadExpression bs_BadExpression [.ref K_WatchError, .type "ValueError", .type "Exception", .type "BaseException", .type "object"] true sn_BadExpression sub_BadExpression ab_BadExpression col_BadExpression dd_BadExpression m0_BadExpression m1_BadExpression m2_BadExpression m3_BadExpression m5_BadExpression "ValueError.__new__"))
    (ys_BadExpression : PySem.W.findIn K (.ref K_BadExpression) "__setattr__" = some (some (.builtin "object.__setattr__")))
    (yn_BadExpression : PySem.W.findIn K (.ref K_BadExpression) "fault" = some none)
    (yi_BadExpression : PySem.W.findIn K (.ref K_BadExpression) "__init__" = some (some (.ref I_BadExpression)))
    (yt_BadExpression : PySem.W.typeIn K (.ref I_BadExpression) = some (.type "function"))
    (yl_BadExpression : K.lookup I_BadExpression = some ⟨oci_BadExpression, odi_BadExpression, .func (PySem.W.fnOf "__init__" "BadExpression.__init__" (defArgs (s_init 2)) (defBody (s_init 2)) (defScope (s_init 2)) .none kVi_BadExpression dci_BadExpression pmi_BadExpression ani_BadExpression cdi_BadExpression cti_BadExpression), sli_BadExpression⟩)
    (yc_BadExpression : PySem.W.codeIn K cdi_BadExpression "BadExpression.__init__" = true)
    (yk_BadExpression : PySem.W.keepIn K (.ref I_BadExpression) = true)
    (yK_BadExpression : PySem.W.keepIn K (.ref K_BadExpression) = true)
    (ye_BadExpression : PySem.W.subIn K (.ref K_BadExpression) (.type "BaseException") = some true)
    (yT_BadExpression : PySem.W.typeIn K (.ref K_BadExpression) = some (.type "type"))
    (yh_BadExpression : PySem.W.findIn K (.ref K_BadExpression) "place" = some none)
    (jg_BadExpression : PySem.W.findIn K (.ref K_BadExpression) "__getattribute__" = some (some (.builtin "BaseException.__getattribute__")))
    (jh_BadExpression : PySem.W.findIn K (.ref K_BadExpression) "__getattr__" = some none)
    (ja_BadExpression : PySem.W.findIn K (.ref K_BadExpression) "__class__" = some (some (.builtin "object.__class__")))
    (jm_BadExpression : PySem.W.mroIn K K_BadExpression (.type "object") = some true)
    (jd_BadExpression : PySem.W.hasDictIn K K_BadExpression = true)
    (js_BadExpression : PySem.W.subIn K (.ref K_BadExpression) (.ref K_BadExpression) = some true)
    (T28 : PySem.W.CodeHd h ct28_ pt28_ ∧ h.get? pt28_ = some (PySem.W.tabObj #[])) :
    LamX.LawAtS l w K CX0 175 63 "script" mg fa h := by
  have e := hfa.symm.trans (PySem.W.mg_of X G a39)
  cases e
  have Z : Zb mg := ⟨PySem.W.mg_none_of X G z1, PySem.W.mg_none_of X G z2, PySem.W.mg_none_of X G z3, PySem.W.mg_none_of X G z4, PySem.W.mg_none_of X G z5, PySem.W.mg_none_of X G z6, PySem.W.mg_none_of X G z7, PySem.W.mg_none_of X G z8, PySem.W.mg_none_of X G z9, PySem.W.mg_none_of X G z10, PySem.W.mg_none_of X G z11, PySem.W.mg_none_of X G z12, PySem.W.mg_none_of X G z13, PySem.W.mg_none_of X G z14, PySem.W.mg_none_of X G z15, PySem.W.mg_none_of X G z16, PySem.W.mg_none_of X G z17, PySem.W.mg_none_of X G z18, PySem.W.mg_none_of X G z19, PySem.W.mg_none_of X G z20⟩
  have F1 := fun_mk (st := s_l_law_cell) l1 c1 k1
  have b1 := F1.binds (ps := ["script", "k"]) fun _ _ _ _ _ _ us hl => match us, hl with | [_, _], _ => rfl
  have F2 := fun_mk (st := s_l_law_draws) l2 c2 k2
  have b2 := F2.binds (ps := ["cell", "many"]) fun _ _ _ _ _ _ us hl => match us, hl with | [_, _], _ => rfl
  have F3 := fun_mk (st := s_run_end) l3 c3 k3
  have b3 := F3.binds (ps := ["text", "at", "characters"]) fun _ _ _ _ _ _ us hl => match us, hl with | [_, _, _], _ => rfl
  have F4 := fun_mk (st := s_word_at) l4 c4 k4
  have b4 := F4.binds (ps := ["text", "at"]) fun _ _ _ _ _ _ us hl => match us, hl with | [_, _], _ => rfl
  have F5 := fun_mk (st := s_number_at) l5 c5 k5
  have b5 := F5.binds (ps := ["text", "at"]) fun _ _ _ _ _ _ us hl => match us, hl with | [_, _], _ => rfl
  have F6 := fun_mk (st := s_string_at) l6 c6 k6
  have b6 := F6.binds (ps := ["text", "at"]) fun _ _ _ _ _ _ us hl => match us, hl with | [_, _], _ => rfl
  have F7 := fun_mk (st := s_symbol_at) l7 c7 k7
  have b7 := F7.binds (ps := ["text", "at"]) fun _ _ _ _ _ _ us hl => match us, hl with | [_, _], _ => rfl
  have F8 := fun_mk (st := s_token_at) l8 c8 k8
  have b8 := F8.binds (ps := ["text", "at"]) fun _ _ _ _ _ _ us hl => match us, hl with | [_, _], _ => rfl
  have F9 := fun_mk (st := s_scan) l9 c9 k9
  have b9 := F9.binds (ps := ["text"]) fun _ _ _ _ _ _ us hl => match us, hl with | [_], _ => rfl
  have F10 := fun_mk (st := s_Walk_init) l10 c10 k10
  have b10 := F10.binds (ps := ["self"]) fun _ _ _ _ _ _ us hl => match us, hl with | [_], _ => rfl
  have F11 := fun_mk (st := s_Walk_note_brackets) l11 c11 k11
  have b11 := F11.binds (ps := ["self", "choice", "state"]) fun _ _ _ _ _ _ us hl => match us, hl with | [_, _, _], _ => rfl
  have F12 := fun_mk (st := s_Walk_refined) l12 c12 k12
  have b12 := F12.binds (ps := ["self", "token", "state"]) fun _ _ _ _ _ _ us hl => match us, hl with | [_, _, _], _ => rfl
  have F13 := fun_mk (st := s_choice_for) l13 c13 k13
  have b13 := F13.binds (ps := ["token", "choices"]) fun _ _ _ _ _ _ us hl => match us, hl with | [_, _], _ => rfl
  have F14 := fun_mk (st := s_Walk_choices) l14 c14 k14
  have b14 := F14.binds (ps := ["self"]) fun _ _ _ _ _ _ us hl => match us, hl with | [_], _ => rfl
  have F15 := fun_mk (st := s_Walk_take) l15 c15 k15
  have b15 := F15.binds (ps := ["self", "token"]) fun _ _ _ _ _ _ us hl => match us, hl with | [_, _], _ => rfl
  have F16 := fun_mk (st := s_walk_along) l16 c16 k16
  have b16 := F16.binds (ps := ["tokens"]) fun _ _ _ _ _ _ us hl => match us, hl with | [_], _ => rfl
  have F17 := fun_mk (st := s_from_steps) l17 c17 k17
  have b17 := F17.binds (ps := ["steps"]) fun _ _ _ _ _ _ us hl => match us, hl with | [_], _ => rfl
  have F18 := fun_mk (st := s_Reader_peek) l18 c18 k18
  have b18 := F18.binds (ps := ["self"]) fun _ _ _ _ _ _ us hl => match us, hl with | [_], _ => rfl
  have F19 := fun_mk (st := s_Reader_take) l19 c19 k19
  have b19 := F19.binds (ps := ["self"]) fun _ _ _ _ _ _ us hl => match us, hl with | [_], _ => rfl
  have F20 := fun_mk (st := s_Reader_read_list) l20 c20 k20
  have b20 := F20.binds (ps := ["self"]) fun _ _ _ _ _ _ us hl => match us, hl with | [_], _ => rfl
  have F21 := fun_mk (st := s_Reader_read_matcher) l21 c21 k21
  have b21 := F21.binds (ps := ["self"]) fun _ _ _ _ _ _ us hl => match us, hl with | [_], _ => rfl
  have F22 := fun_mk (st := s_Reader_read_matchers) l22 c22 k22
  have b22 := F22.binds (ps := ["self"]) fun _ _ _ _ _ _ us hl => match us, hl with | [_], _ => rfl
  have F23 := fun_mk (st := s_Reader_read_over) l23 c23 k23
  have b23 := F23.binds (ps := ["self", "word"]) fun _ _ _ _ _ _ us hl => match us, hl with | [_, _], _ => rfl
  have F24 := fun_mk (st := s_Reader_read_aggregate) l24 c24 k24
  have b24 := F24.binds (ps := ["self", "word", "place"]) fun _ _ _ _ _ _ us hl => match us, hl with | [_, _, _], _ => rfl
  have F25 := fun_mk (st := s_Reader_read_operand) l25 c25 k25
  have b25 := F25.binds (ps := ["self"]) fun _ _ _ _ _ _ us hl => match us, hl with | [_], _ => rfl
  have F26 := fun_mk (st := s_Reader_read_expression) l26 c26 k26
  have b26 := F26.binds (ps := ["self", "weakest"]) fun _ _ _ _ _ _ us hl => match us, hl with | [_, _], _ => rfl
  have F27 := fun_mk (st := s_Reader_init) l27 c27 k27
  have b27 := F27.binds (ps := ["self", "found"]) fun _ _ _ _ _ _ us hl => match us, hl with | [_, _], _ => rfl
  have t28 : PySem.W.tabIn K "is_large" = some (ct28_, pt28_) := tab_in a28 l28 rfl m28 v28
  have F28 := fun_mk (st := s_is_large) l28 c28 k28
  have b28 := F28.binds (ps := ["step"]) fun _ _ _ _ _ _ us hl => match us, hl with | [_], _ => rfl
  have F29 := fun_mk (st := s_check_sizes) l29 c29 k29
  have b29 := F29.binds (ps := ["marks", "end"]) fun _ _ _ _ _ _ us hl => match us, hl with | [_, _], _ => rfl
  have F30 := fun_mk (st := s_check_spans) l30 c30 k30
  have b30 := F30.binds (ps := ["marks"]) fun _ _ _ _ _ _ us hl => match us, hl with | [_], _ => rfl
  have F31 := fun_mk (st := s_binary_kind) l31 c31 k31
  have b31 := F31.binds (ps := ["sign", "left", "right"]) fun _ _ _ _ _ _ us hl => match us, hl with | [_, _, _], _ => rfl
  have F32 := fun_mk (st := s_aggregate_kind) l32 c32 k32
  have b32 := F32.binds (ps := ["inner"]) fun _ _ _ _ _ _ us hl => match us, hl with | [_], _ => rfl
  have F33 := fun_mk (st := s_check_kinds) l33 c33 k33
  have b33 := F33.binds (ps := ["marks"]) fun _ _ _ _ _ _ us hl => match us, hl with | [_], _ => rfl
  have F34 := fun_mk (st := s_check_depth) l34 c34 k34
  have b34 := F34.binds (ps := ["found"]) fun _ _ _ _ _ _ us hl => match us, hl with | [_], _ => rfl
  have F35 := fun_mk (st := s_checked_tokens) l35 c35 k35
  have b35 := F35.binds (ps := ["text"]) fun _ _ _ _ _ _ us hl => match us, hl with | [_], _ => rfl
  have F36 := fun_mk (st := s_parse) l36 c36 k36
  have b36 := F36.binds (ps := ["text"]) fun _ _ _ _ _ _ us hl => match us, hl with | [_], _ => rfl
  have F37 := fun_mk (st := s_parts_of) l37 c37 k37
  have b37 := F37.binds (ps := ["expression"]) fun _ _ _ _ _ _ us hl => match us, hl with | [_], _ => rfl
  have F38 := fun_mk (st := s_count_of) l38 c38 k38
  have b38 := F38.binds (ps := ["expression"]) fun _ _ _ _ _ _ us hl => match us, hl with | [_], _ => rfl
  have F39 := fun_mk (st := s_law) l39 c39 k39
  have G_BadSteps := fun_mk (st := (s_init 3)) yl_BadSteps yc_BadSteps yk_BadSteps
  have B_BadSteps := G_BadSteps.binds (ps := ["self", "place"]) fun _ _ _ _ _ _ us hl => match us, hl with | [_, _], _ => rfl
  have T_BadSteps : OexC K K_BadSteps := ⟨⟨_, _, _, _, _, _, _, _, _, _, _, _, _, _, _, yL_BadSteps, by first | rfl | decide +kernel⟩, ys_BadSteps, ye_BadSteps, yT_BadSteps, yK_BadSteps⟩
  have G_BadExpression := fun_mk (st := (s_init 2)) yl_BadExpression yc_BadExpression yk_BadExpression
  have B_BadExpression := G_BadExpression.binds (ps := ["self", "fault", "place"]) fun _ _ _ _ _ _ us hl => match us, hl with | [_, _, _], _ => rfl
  have T_BadExpression : OexC K K_BadExpression := ⟨⟨_, _, _, _, _, _, _, _, _, _, _, _, _, _, _, yL_BadExpression, by first | rfl | decide +kernel⟩, ys_BadExpression, ye_BadExpression, yT_BadExpression, yK_BadExpression⟩
  refine ⟨PySem.W.fnOf "law" "law" (defArgs s_law) (defBody s_law) (defScope s_law) .none kV39 dc39 pm39 an39 cd39 ct39, [(ct28_, pt28_)], spD K [pt28_] R_law, (by intro p hp; simp only [List.mem_cons, List.not_mem_nil, or_false] at hp; rcases hp with rfl <;> first | exact T28.2), (by intro p hp; simp only [List.mem_cons, List.not_mem_nil, or_false] at hp; rcases hp with rfl <;> first | exact n28), (by intro p hp; simp only [List.mem_cons, List.not_mem_nil, or_false] at hp; rcases hp with rfl <;> first | exact T28.1), fun s v => .of_eq rfl, fun H a ns hl _ hT hS => ⟨DW.cut H, [.list (ns.map .int)], .bool true, DW.sub_cut H, ?_, DW.dp_script hS, ⟨ns, rfl, hl, rfl⟩, fun v F' H' _ hd => by cases hd; rfl⟩, fun base _ _ TBs => ?_⟩
  · intro p hp
    have hq : ∃ c, (c, p) ∈ ([(ct28_, pt28_)] : List (Addr × Addr)) := by
      simp only [List.mem_cons, List.not_mem_nil, or_false] at hp
      rcases hp with rfl <;> exact ⟨_, by simp only [List.mem_cons, true_or, or_true]; first | exact .inl rfl | exact .inr (.inl rfl) | exact .inr (.inr (.inl rfl)) | exact .inr (.inr (.inr (.inl rfl)))⟩
    obtain ⟨c, hc⟩ := hq
    exact ⟨#[], hT _ hc, by first | trivial | simp [TriplesOk] | decide⟩
  have D1 := ok_cell (P := l.prog) (w := w) (K := K) (mg := mg) (base := base) (Tb := [pt28_]) F1 (PySem.W.mg_of X G a1) b1 Z 
  have D2 := ok_draws (P := l.prog) (w := w) (K := K) (mg := mg) (base := base) (Tb := [pt28_]) F2 (PySem.W.mg_of X G a2) b2 Z 
  have D3 := ok_run (P := l.prog) (w := w) (K := K) (mg := mg) (base := base) (Tb := [pt28_]) F3 (PySem.W.mg_of X G a3) b3 Z 
  have D4 := ok_word (P := l.prog) (w := w) (K := K) (mg := mg) (base := base) (Tb := [pt28_]) F4 (PySem.W.mg_of X G a4) b4 Z ⟨_, PySem.W.mg_of X G c_CHARACTERS, ⟨_, rfl⟩⟩ ⟨_, PySem.W.mg_of X G c_LONGEST_WORD, ⟨_, rfl⟩⟩ D3
  have D5 := ok_number (P := l.prog) (w := w) (K := K) (mg := mg) (base := base) (Tb := [pt28_]) F5 (PySem.W.mg_of X G a5) b5 Z ⟨_, PySem.W.mg_of X G c_DIGITS, ⟨_, rfl⟩⟩ ⟨_, PySem.W.mg_of X G c_GREATEST_VALUE, ⟨_, rfl⟩⟩ D3
  have D6 := ok_string (P := l.prog) (w := w) (K := K) (mg := mg) (base := base) (Tb := [pt28_]) F6 (PySem.W.mg_of X G a6) b6 Z ⟨_, PySem.W.mg_of X G c_CHARACTERS, ⟨_, rfl⟩⟩ ⟨_, PySem.W.mg_of X G c_LONGEST_WORD, ⟨_, rfl⟩⟩ ⟨_, PySem.W.mg_of X G c_QUOTE, ⟨_, rfl⟩⟩ D3
  have D7 := ok_symbol (P := l.prog) (w := w) (K := K) (mg := mg) (base := base) (Tb := [pt28_]) F7 (PySem.W.mg_of X G a7) b7 Z ⟨PySem.W.mg_of X G ua_SYMBOLS, _, _, _, ub_SYMBOLS, rfl, rfl, Nat.le_of_ble_eq_true rfl, (.cons ⟨_, rfl⟩ (.cons ⟨_, rfl⟩ (.cons ⟨_, rfl⟩ (.cons ⟨_, rfl⟩ (.cons ⟨_, rfl⟩ (.cons ⟨_, rfl⟩ (.cons ⟨_, rfl⟩ (.cons ⟨_, rfl⟩ (.cons ⟨_, rfl⟩ (.cons ⟨_, rfl⟩ (.cons ⟨_, rfl⟩ (.cons ⟨_, rfl⟩ (.cons ⟨_, rfl⟩ (.cons ⟨_, rfl⟩ (.cons ⟨_, rfl⟩ (.cons ⟨_, rfl⟩ (.cons ⟨_, rfl⟩ .nil)))))))))))))))))⟩
  have D8 := ok_token (P := l.prog) (w := w) (K := K) (mg := mg) (base := base) (Tb := [pt28_]) F8 (PySem.W.mg_of X G a8) b8 Z ⟨_, PySem.W.mg_of X G c_LETTERS, ⟨_, rfl⟩⟩ ⟨_, PySem.W.mg_of X G c_DIGITS, ⟨_, rfl⟩⟩ ⟨_, PySem.W.mg_of X G c_QUOTE, ⟨_, rfl⟩⟩ D4 D5 D6 D7
  have D9 := ok_scan (P := l.prog) (w := w) (K := K) (mg := mg) (base := base) (Tb := [pt28_]) F9 (PySem.W.mg_of X G a9) b9 Z ⟨_, PySem.W.mg_of X G c_LONGEST_TEXT, ⟨_, rfl⟩⟩ ⟨_, PySem.W.mg_of X G c_BLANKS, ⟨_, rfl⟩⟩ D3 D8
  have D10 := mk_wi (P := l.prog) (w := w) (K := K) (mg := mg) (base := base) (Tb := [pt28_]) F10 ⟨xq_wm_Walk, a10, xq_f10, wk_Walk⟩ b10 Z (PySem.W.mg_of X G wa_Walk) ⟨xq_wg_Walk, xq_wh_Walk, xq_wp_Walk, ws_Walk⟩ wn_Walk_state wn_Walk_depth wn_Walk_in_range
  have D11 := ok_nb (P := l.prog) (w := w) (K := K) (mg := mg) (base := base) (Tb := [pt28_]) F11 ⟨a11, xq_f11, k11⟩ b11 Z ⟨xq_wg_Walk, xq_wh_Walk, xq_wp_Walk, ws_Walk⟩ wn_Walk_state wn_Walk_depth wn_Walk_in_range ⟨PySem.W.mg_of X G ua_OPERAND_ENDS, _, _, _, ub_OPERAND_ENDS, rfl, rfl, Nat.le_of_ble_eq_true rfl, (.cons ⟨_, rfl⟩ (.cons ⟨_, rfl⟩ (.cons ⟨_, rfl⟩ (.cons ⟨_, rfl⟩ .nil))))⟩
  have D12 := ok_rf (P := l.prog) (w := w) (K := K) (mg := mg) (base := base) (Tb := [pt28_]) F12 ⟨a12, xq_f12, k12⟩ b12 Z ⟨xq_wg_Walk, xq_wh_Walk, xq_wp_Walk, ws_Walk⟩ wn_Walk_in_range ⟨PySem.W.mg_of X G ua_OVER_WORDS, _, _, _, ub_OVER_WORDS, rfl, rfl, Nat.le_of_ble_eq_true rfl, (.cons ⟨_, rfl⟩ (.cons ⟨_, rfl⟩ (.cons ⟨_, rfl⟩ (.cons ⟨_, rfl⟩ (.cons ⟨_, rfl⟩ (.cons ⟨_, rfl⟩ .nil))))))⟩ ⟨PySem.W.mg_of X G ua_AGGREGATE_WORDS, _, _, _, ub_AGGREGATE_WORDS, rfl, rfl, Nat.le_of_ble_eq_true rfl, (.cons ⟨_, rfl⟩ (.cons ⟨_, rfl⟩ (.cons ⟨_, rfl⟩ (.cons ⟨_, rfl⟩ .nil))))⟩
  have D13 := ok_cf (P := l.prog) (w := w) (K := K) (mg := mg) (base := base) (Tb := [pt28_]) F13 (PySem.W.mg_of X G a13) b13 Z 
  have D14 := ok_ch (P := l.prog) (w := w) (K := K) (mg := mg) (base := base) (Tb := [pt28_]) F14 ⟨a14, xq_f14, k14⟩ b14 Z ⟨xq_wg_Walk, xq_wh_Walk, xq_wp_Walk, ws_Walk⟩ wn_Walk_state wn_Walk_depth ⟨PySem.W.mg_of X G ua_OPERAND_ENDS, _, _, _, ub_OPERAND_ENDS, rfl, rfl, Nat.le_of_ble_eq_true rfl, (.cons ⟨_, rfl⟩ (.cons ⟨_, rfl⟩ (.cons ⟨_, rfl⟩ (.cons ⟨_, rfl⟩ .nil))))⟩ ⟨_, PySem.W.mg_of X G da_NEXT_STATES, rfl⟩ ⟨⟨_, _, db_NEXT_STATES, dc_NEXT_STATES, dl_NEXT_STATES⟩, has_p (show HasP K _ NXs from ⟨⟨_, dv0_NEXT_STATES, [B0_0_NEXT_STATES, B1_0_NEXT_STATES, B2_0_NEXT_STATES, B3_0_NEXT_STATES], _, _, ta0_NEXT_STATES, by decide, (.cons ⟨_, _, _, _, _, tb0_0_NEXT_STATES⟩ (.cons ⟨_, _, _, _, _, tb1_0_NEXT_STATES⟩ (.cons ⟨_, _, _, _, _, tb2_0_NEXT_STATES⟩ (.cons ⟨_, _, _, _, _, tb3_0_NEXT_STATES⟩ .nil))))⟩, ⟨_, dv1_NEXT_STATES, [B0_1_NEXT_STATES], _, _, ta1_NEXT_STATES, by decide, (.cons ⟨_, _, _, _, _, tb0_1_NEXT_STATES⟩ .nil)⟩, ⟨_, dv2_NEXT_STATES, [B0_2_NEXT_STATES], _, _, ta2_NEXT_STATES, by decide, (.cons ⟨_, _, _, _, _, tb0_2_NEXT_STATES⟩ .nil)⟩, ⟨_, dv3_NEXT_STATES, [B0_3_NEXT_STATES, B1_3_NEXT_STATES], _, _, ta3_NEXT_STATES, by decide, (.cons ⟨_, _, _, _, _, tb0_3_NEXT_STATES⟩ (.cons ⟨_, _, _, _, _, tb1_3_NEXT_STATES⟩ .nil))⟩, ⟨_, dv4_NEXT_STATES, [B0_4_NEXT_STATES, B1_4_NEXT_STATES, B2_4_NEXT_STATES], _, _, ta4_NEXT_STATES, by decide, (.cons ⟨_, _, _, _, _, tb0_4_NEXT_STATES⟩ (.cons ⟨_, _, _, _, _, tb1_4_NEXT_STATES⟩ (.cons ⟨_, _, _, _, _, tb2_4_NEXT_STATES⟩ .nil)))⟩, ⟨_, dv5_NEXT_STATES, [], _, _, ta5_NEXT_STATES, by decide, .nil⟩, ⟨_, dv6_NEXT_STATES, [B0_6_NEXT_STATES, B1_6_NEXT_STATES], _, _, ta6_NEXT_STATES, by decide, (.cons ⟨_, _, _, _, _, tb0_6_NEXT_STATES⟩ (.cons ⟨_, _, _, _, _, tb1_6_NEXT_STATES⟩ .nil))⟩, ⟨_, dv7_NEXT_STATES, [B0_7_NEXT_STATES], _, _, ta7_NEXT_STATES, by decide, (.cons ⟨_, _, _, _, _, tb0_7_NEXT_STATES⟩ .nil)⟩, ⟨_, dv8_NEXT_STATES, [B0_8_NEXT_STATES, B1_8_NEXT_STATES, B2_8_NEXT_STATES, B3_8_NEXT_STATES], _, _, ta8_NEXT_STATES, by decide, (.cons ⟨_, _, _, _, _, tb0_8_NEXT_STATES⟩ (.cons ⟨_, _, _, _, _, tb1_8_NEXT_STATES⟩ (.cons ⟨_, _, _, _, _, tb2_8_NEXT_STATES⟩ (.cons ⟨_, _, _, _, _, tb3_8_NEXT_STATES⟩ .nil))))⟩, ⟨_, dv9_NEXT_STATES, [B0_9_NEXT_STATES], _, _, ta9_NEXT_STATES, by decide, (.cons ⟨_, _, _, _, _, tb0_9_NEXT_STATES⟩ .nil)⟩, ⟨_, dv10_NEXT_STATES, [B0_10_NEXT_STATES], _, _, ta10_NEXT_STATES, by decide, (.cons ⟨_, _, _, _, _, tb0_10_NEXT_STATES⟩ .nil)⟩, ⟨_, dv11_NEXT_STATES, [B0_11_NEXT_STATES], _, _, ta11_NEXT_STATES, by decide, (.cons ⟨_, _, _, _, _, tb0_11_NEXT_STATES⟩ .nil)⟩, ⟨_, dv12_NEXT_STATES, [B0_12_NEXT_STATES], _, _, ta12_NEXT_STATES, by decide, (.cons ⟨_, _, _, _, _, tb0_12_NEXT_STATES⟩ .nil)⟩, ⟨_, dv13_NEXT_STATES, [B0_13_NEXT_STATES, B1_13_NEXT_STATES], _, _, ta13_NEXT_STATES, by decide, (.cons ⟨_, _, _, _, _, tb0_13_NEXT_STATES⟩ (.cons ⟨_, _, _, _, _, tb1_13_NEXT_STATES⟩ .nil))⟩, ⟨_, dv14_NEXT_STATES, [B0_14_NEXT_STATES, B1_14_NEXT_STATES], _, _, ta14_NEXT_STATES, by decide, (.cons ⟨_, _, _, _, _, tb0_14_NEXT_STATES⟩ (.cons ⟨_, _, _, _, _, tb1_14_NEXT_STATES⟩ .nil))⟩, ⟨_, dv15_NEXT_STATES, [B0_15_NEXT_STATES], _, _, ta15_NEXT_STATES, by decide, (.cons ⟨_, _, _, _, _, tb0_15_NEXT_STATES⟩ .nil)⟩, ⟨_, dv16_NEXT_STATES, [B0_16_NEXT_STATES, B1_16_NEXT_STATES], _, _, ta16_NEXT_STATES, by decide, (.cons ⟨_, _, _, _, _, tb0_16_NEXT_STATES⟩ (.cons ⟨_, _, _, _, _, tb1_16_NEXT_STATES⟩ .nil))⟩, ⟨_, dv17_NEXT_STATES, [B0_17_NEXT_STATES], _, _, ta17_NEXT_STATES, by decide, (.cons ⟨_, _, _, _, _, tb0_17_NEXT_STATES⟩ .nil)⟩, ⟨_, dv18_NEXT_STATES, [B0_18_NEXT_STATES], _, _, ta18_NEXT_STATES, by decide, (.cons ⟨_, _, _, _, _, tb0_18_NEXT_STATES⟩ .nil)⟩, ⟨_, dv19_NEXT_STATES, [B0_19_NEXT_STATES], _, _, ta19_NEXT_STATES, by decide, (.cons ⟨_, _, _, _, _, tb0_19_NEXT_STATES⟩ .nil)⟩, ⟨_, dv20_NEXT_STATES, [B0_20_NEXT_STATES], _, _, ta20_NEXT_STATES, by decide, (.cons ⟨_, _, _, _, _, tb0_20_NEXT_STATES⟩ .nil)⟩, ⟨_, dv21_NEXT_STATES, [B0_21_NEXT_STATES], _, _, ta21_NEXT_STATES, by decide, (.cons ⟨_, _, _, _, _, tb0_21_NEXT_STATES⟩ .nil)⟩, ⟨_, dv22_NEXT_STATES, [B0_22_NEXT_STATES, B1_22_NEXT_STATES], _, _, ta22_NEXT_STATES, by decide, (.cons ⟨_, _, _, _, _, tb0_22_NEXT_STATES⟩ (.cons ⟨_, _, _, _, _, tb1_22_NEXT_STATES⟩ .nil))⟩, ⟨_, dv23_NEXT_STATES, [B0_23_NEXT_STATES], _, _, ta23_NEXT_STATES, by decide, (.cons ⟨_, _, _, _, _, tb0_23_NEXT_STATES⟩ .nil)⟩, ⟨_, dv24_NEXT_STATES, [B0_24_NEXT_STATES, B1_24_NEXT_STATES], _, _, ta24_NEXT_STATES, by decide, (.cons ⟨_, _, _, _, _, tb0_24_NEXT_STATES⟩ (.cons ⟨_, _, _, _, _, tb1_24_NEXT_STATES⟩ .nil))⟩, ⟨_, dv25_NEXT_STATES, [B0_25_NEXT_STATES], _, _, ta25_NEXT_STATES, by decide, (.cons ⟨_, _, _, _, _, tb0_25_NEXT_STATES⟩ .nil)⟩, trivial⟩)⟩ ⟨_, PySem.W.mg_of X G da_STRENGTHS, rfl⟩ (kdl_of db_STRENGTHS dl_STRENGTHS (.cons ⟨_, rfl⟩ (.cons ⟨_, rfl⟩ (.cons ⟨_, rfl⟩ (.cons ⟨_, rfl⟩ (.cons ⟨_, rfl⟩ (.cons ⟨_, rfl⟩ (.cons ⟨_, rfl⟩ (.cons ⟨_, rfl⟩ (.cons ⟨_, rfl⟩ (.cons ⟨_, rfl⟩ (.cons ⟨_, rfl⟩ (.cons ⟨_, rfl⟩ .nil)))))))))))))
  have D15 := ok_tk (P := l.prog) (w := w) (K := K) (mg := mg) (base := base) (Tb := [pt28_]) F15 ⟨a15, xq_f15, k15⟩ b15 Z ⟨xq_wg_Walk, xq_wh_Walk, xq_wp_Walk, ws_Walk⟩ wn_Walk_state D14 D11 D12 D13
  have D16 := ok_wa (P := l.prog) (w := w) (K := K) (mg := mg) (base := base) (Tb := [pt28_]) F16 (PySem.W.mg_of X G a16) b16 Z ⟨xq_wg_Walk, xq_wh_Walk, xq_wp_Walk, ws_Walk⟩ D10 D15
  have D17 := ok_from (P := l.prog) (w := w) (K := K) (mg := mg) (base := base) (Tb := [pt28_]) F17 (PySem.W.mg_of X G a17) b17 Z ⟨PySem.W.mg_of X G da_PARTS_TAKEN, ⟨_, _, db_PARTS_TAKEN, dc_PARTS_TAKEN, dl_PARTS_TAKEN⟩, ⟨_, dv0_PARTS_TAKEN⟩, ⟨_, dv1_PARTS_TAKEN⟩, dm0_PARTS_TAKEN, dm1_PARTS_TAKEN, dm2_PARTS_TAKEN⟩ (xi_B (P := l.prog) (w := w) (mg := mg) (base := base) (PySem.W.mg_of X G ya_BadSteps) G_BadSteps B_BadSteps T_BadSteps yn_BadSteps yi_BadSteps yt_BadSteps)
  have D18 := ok_pk (P := l.prog) (w := w) (K := K) (mg := mg) (base := base) (Tb := [pt28_]) F18 ⟨a18, xq_f18, k18⟩ b18 Z ⟨xq_wg_Reader, xq_wh_Reader, xq_wp_Reader, ws_Reader⟩ wn_Reader_found wn_Reader_at
  have D19 := ok_tkr (P := l.prog) (w := w) (K := K) (mg := mg) (base := base) (Tb := [pt28_]) F19 ⟨a19, xq_f19, k19⟩ b19 Z ⟨xq_wg_Reader, xq_wh_Reader, xq_wp_Reader, ws_Reader⟩ wn_Reader_found wn_Reader_at
  have D20 := ok_rls (P := l.prog) (w := w) (K := K) (mg := mg) (base := base) (Tb := [pt28_]) F20 ⟨a20, xq_f20, k20⟩ b20 Z ⟨xq_wg_Reader, xq_wh_Reader, xq_wp_Reader, ws_Reader⟩ D19 D18
  have D21 := ok_rm1 (P := l.prog) (w := w) (K := K) (mg := mg) (base := base) (Tb := [pt28_]) F21 ⟨a21, xq_f21, k21⟩ b21 Z ⟨xq_wg_Reader, xq_wh_Reader, xq_wp_Reader, ws_Reader⟩ D19 D20
  have D22 := ok_rms (P := l.prog) (w := w) (K := K) (mg := mg) (base := base) (Tb := [pt28_]) F22 ⟨a22, xq_f22, k22⟩ b22 Z ⟨xq_wg_Reader, xq_wh_Reader, xq_wp_Reader, ws_Reader⟩ D19 D18 D21
  have D23 := ok_rov (P := l.prog) (w := w) (K := K) (mg := mg) (base := base) (Tb := [pt28_]) F23 ⟨a23, xq_f23, k23⟩ b23 Z ⟨xq_wg_Reader, xq_wh_Reader, xq_wp_Reader, ws_Reader⟩ wn_Reader_marks D19 D22
  have D24 := mk_fa (P := l.prog) (w := w) (K := K) (mg := mg) (base := base) (Tb := [pt28_]) F24 ⟨a24, xq_f24, k24⟩ b24 Z 
  have D25 := mk_fo (P := l.prog) (w := w) (K := K) (mg := mg) (base := base) (Tb := [pt28_]) F25 ⟨a25, xq_f25, k25⟩ b25 Z 
  have D26 := ok_red (P := l.prog) (w := w) (K := K) (mg := mg) (base := base) (Tb := [pt28_]) F26 ⟨a26, xq_f26, k26⟩ b26 Z ⟨xq_wg_Reader, xq_wh_Reader, xq_wp_Reader, ws_Reader⟩ wn_Reader_marks ⟨PySem.W.mg_of X G ua_OVER_WORDS, _, _, _, ub_OVER_WORDS, rfl, rfl, Nat.le_of_ble_eq_true rfl, (.cons ⟨_, rfl⟩ (.cons ⟨_, rfl⟩ (.cons ⟨_, rfl⟩ (.cons ⟨_, rfl⟩ (.cons ⟨_, rfl⟩ (.cons ⟨_, rfl⟩ .nil))))))⟩ ⟨PySem.W.mg_of X G ua_AGGREGATE_WORDS, _, _, _, ub_AGGREGATE_WORDS, rfl, rfl, Nat.le_of_ble_eq_true rfl, (.cons ⟨_, rfl⟩ (.cons ⟨_, rfl⟩ (.cons ⟨_, rfl⟩ (.cons ⟨_, rfl⟩ .nil))))⟩ ⟨PySem.W.mg_of X G da_STRENGTHS, ⟨_, _, db_STRENGTHS, dc_STRENGTHS, dl_STRENGTHS⟩, ⟨_, dv0_STRENGTHS⟩, ⟨_, dv1_STRENGTHS⟩, ⟨_, dv2_STRENGTHS⟩, ⟨_, dv3_STRENGTHS⟩, ⟨_, dv4_STRENGTHS⟩, ⟨_, dv5_STRENGTHS⟩, ⟨_, dv6_STRENGTHS⟩, ⟨_, dv7_STRENGTHS⟩, ⟨_, dv8_STRENGTHS⟩, ⟨_, dv9_STRENGTHS⟩, ⟨_, dv10_STRENGTHS⟩, ⟨_, dv11_STRENGTHS⟩, dm0_STRENGTHS, dm1_STRENGTHS⟩ D19 D18 D20 D22 D23 D24 D25
  have D27 := mk_ri (P := l.prog) (w := w) (K := K) (mg := mg) (base := base) (Tb := [pt28_]) F27 ⟨xq_wm_Reader, a27, xq_f27, wk_Reader⟩ b27 Z (PySem.W.mg_of X G wa_Reader) ⟨xq_wg_Reader, xq_wh_Reader, xq_wp_Reader, ws_Reader⟩ wn_Reader_found wn_Reader_at wn_Reader_marks
  have D28 := ok_il (P := l.prog) (w := w) (K := K) (mg := mg) (base := base) (Tb := [pt28_]) F28 (PySem.W.mg_of X G a28) b28 Z ⟨_, PySem.W.mg_of X G c_MOST_NAMES, ⟨_, rfl⟩⟩ ⟨_, PySem.W.mg_of X G c_MOST_MATCHERS, ⟨_, rfl⟩⟩ ⟨_, PySem.W.mg_of X G c_MOST_VALUES, ⟨_, rfl⟩⟩ a28 t28 (tab_gx (TBs (ct28_, pt28_) (by simp))) (by simp)
  have D29 := ok_cz (P := l.prog) (w := w) (K := K) (mg := mg) (base := base) (Tb := [pt28_]) F29 (PySem.W.mg_of X G a29) b29 Z ⟨_, PySem.W.mg_of X G c_MOST_SELECTORS, ⟨_, rfl⟩⟩ ⟨_, PySem.W.mg_of X G c_MOST_OPERATORS, ⟨_, rfl⟩⟩ (xi_A (P := l.prog) (w := w) (mg := mg) (base := base) (PySem.W.mg_of X G ya_BadExpression) G_BadExpression B_BadExpression T_BadExpression yn_BadExpression yh_BadExpression yi_BadExpression yt_BadExpression) D28
  have D30 := ok_csp (P := l.prog) (w := w) (K := K) (mg := mg) (base := base) (Tb := [pt28_]) F30 (PySem.W.mg_of X G a30) b30 Z ⟨_, PySem.W.mg_of X G c_LONGEST_SPAN, ⟨_, rfl⟩⟩ (xi_A (P := l.prog) (w := w) (mg := mg) (base := base) (PySem.W.mg_of X G ya_BadExpression) G_BadExpression B_BadExpression T_BadExpression yn_BadExpression yh_BadExpression yi_BadExpression yt_BadExpression)
  have D31 := ok_bk (P := l.prog) (w := w) (K := K) (mg := mg) (base := base) (Tb := [pt28_]) F31 (PySem.W.mg_of X G a31) b31 Z ⟨PySem.W.mg_of X G ua_JOINING_SIGNS, _, _, _, ub_JOINING_SIGNS, rfl, rfl, Nat.le_of_ble_eq_true rfl, (.cons ⟨_, rfl⟩ (.cons ⟨_, rfl⟩ (.cons ⟨_, rfl⟩ .nil)))⟩ ⟨PySem.W.mg_of X G ua_ARITHMETIC_SIGNS, _, _, _, ub_ARITHMETIC_SIGNS, rfl, rfl, Nat.le_of_ble_eq_true rfl, (.cons ⟨_, rfl⟩ (.cons ⟨_, rfl⟩ (.cons ⟨_, rfl⟩ .nil)))⟩
  have D32 := ok_ak (P := l.prog) (w := w) (K := K) (mg := mg) (base := base) (Tb := [pt28_]) F32 (PySem.W.mg_of X G a32) b32 Z 
  have D33 := ok_ckk (P := l.prog) (w := w) (K := K) (mg := mg) (base := base) (Tb := [pt28_]) F33 (PySem.W.mg_of X G a33) b33 Z (xi_A (P := l.prog) (w := w) (mg := mg) (base := base) (PySem.W.mg_of X G ya_BadExpression) G_BadExpression B_BadExpression T_BadExpression yn_BadExpression yh_BadExpression yi_BadExpression yt_BadExpression) D31 D32
  have D34 := ok_cd (P := l.prog) (w := w) (K := K) (mg := mg) (base := base) (Tb := [pt28_]) F34 (PySem.W.mg_of X G a34) b34 Z ⟨_, PySem.W.mg_of X G c_DEEPEST, ⟨_, rfl⟩⟩ (xi_A (P := l.prog) (w := w) (mg := mg) (base := base) (PySem.W.mg_of X G ya_BadExpression) G_BadExpression B_BadExpression T_BadExpression yn_BadExpression yh_BadExpression yi_BadExpression yt_BadExpression)
  have D35 := ok_ct (P := l.prog) (w := w) (K := K) (mg := mg) (base := base) (Tb := [pt28_]) F35 (PySem.W.mg_of X G a35) b35 Z ⟨xq_wg_Walk, xq_wh_Walk, xq_wp_Walk, ws_Walk⟩ (xi_A (P := l.prog) (w := w) (mg := mg) (base := base) (PySem.W.mg_of X G ya_BadExpression) G_BadExpression B_BadExpression T_BadExpression yn_BadExpression yh_BadExpression yi_BadExpression yt_BadExpression) D9 D16 D14
  have D36 := ok_prs (P := l.prog) (w := w) (K := K) (mg := mg) (base := base) (Tb := [pt28_]) F36 (PySem.W.mg_of X G a36) b36 Z ⟨xq_wg_Reader, xq_wh_Reader, xq_wp_Reader, ws_Reader⟩ wn_Reader_marks D35 D34 D27 D26 D29 D30 D33 D17
  have D37 := ok_parts (P := l.prog) (w := w) (K := K) (mg := mg) (base := base) (Tb := [pt28_]) F37 (PySem.W.mg_of X G a37) b37 Z 
  have D38 := ok_co (P := l.prog) (w := w) (K := K) (mg := mg) (base := base) (Tb := [pt28_]) F38 (PySem.W.mg_of X G a38) b38 Z D37 9
  exact ok_law (Tb := [pt28_]) F39 Z (xi_A (P := l.prog) (w := w) (mg := mg) (base := base) (PySem.W.mg_of X G ya_BadExpression) G_BadExpression B_BadExpression T_BadExpression yn_BadExpression yh_BadExpression yi_BadExpression yt_BadExpression) ⟨jg_BadExpression, jh_BadExpression, ye_BadExpression, jd_BadExpression⟩ (PySem.W.exm_ref ye_BadExpression jd_BadExpression yT_BadExpression js_BadExpression) D1 D2 D38 D36
end K11
open PySem PySem.W PyProof.Rows
set_option maxHeartbeats 0 in
theorem PySem.Challenge.cw_watchfloor_k11_language_limits_holds : PySem.Challenge.rw_watchfloor_k11_language_limits.Holds := by
  w_on; o_law; k_head; (case hw => w_witness2)
  k_fill
  refine LamX.walk_ofTop (l := PySem.Challenge.rw_watchfloor_k11_language_limits) (n := 63) (k := 175) (x := "script") (CX := fun _ => L2.CX0) rfl (by decide) rfl ⟨rfl, by decide, by decide⟩ (fun w h Y => PySem.W.kIn_of Y) ?F (fun _ _ _ _ _ h => h)
  case F =>
    intro w mg fa h Y KX G hmg TT
    refine' K11.all_mk KX G hmg ?a1 ?l1 ?c1 ?k1 ?a2 ?l2 ?c2 ?k2 ?a3 ?l3 ?c3 ?k3 ?a4 ?l4 ?c4 ?k4 ?a5 ?l5 ?c5 ?k5 ?a6 ?l6 ?c6 ?k6 ?a7 ?l7 ?c7 ?k7 ?a8 ?l8 ?c8 ?k8 ?a9 ?l9 ?c9 ?k9 ?a10 ?l10 ?c10 ?k10 ?xq_f10 ?a11 ?l11 ?c11 ?k11 ?xq_f11 ?a12 ?l12 ?c12 ?k12 ?xq_f12 ?a13 ?l13 ?c13 ?k13 ?a14 ?l14 ?c14 ?k14 ?xq_f14 ?a15 ?l15 ?c15 ?k15 ?xq_f15 ?a16 ?l16 ?c16 ?k16 ?a17 ?l17 ?c17 ?k17 ?a18 ?l18 ?c18 ?k18 ?xq_f18 ?a19 ?l19 ?c19 ?k19 ?xq_f19 ?a20 ?l20 ?c20 ?k20 ?xq_f20 ?a21 ?l21 ?c21 ?k21 ?xq_f21 ?a22 ?l22 ?c22 ?k22 ?xq_f22 ?a23 ?l23 ?c23 ?k23 ?xq_f23 ?a24 ?l24 ?c24 ?k24 ?xq_f24 ?a25 ?l25 ?c25 ?k25 ?xq_f25 ?a26 ?l26 ?c26 ?k26 ?xq_f26 ?a27 ?l27 ?c27 ?k27 ?xq_f27 ?a28 ?l28 ?c28 ?k28 ?a29 ?l29 ?c29 ?k29 ?a30 ?l30 ?c30 ?k30 ?a31 ?l31 ?c31 ?k31 ?a32 ?l32 ?c32 ?k32 ?a33 ?l33 ?c33 ?k33 ?a34 ?l34 ?c34 ?k34 ?a35 ?l35 ?c35 ?k35 ?a36 ?l36 ?c36 ?k36 ?a37 ?l37 ?c37 ?k37 ?a38 ?l38 ?c38 ?k38 ?a39 ?l39 ?c39 ?k39 ?m28 ?v28 ?n28 ?z1 ?z2 ?z3 ?z4 ?z5 ?z6 ?z7 ?z8 ?z9 ?z10 ?z11 ?z12 ?z13 ?z14 ?z15 ?z16 ?z17 ?z18 ?z19 ?z20 ?c_DEEPEST ?c_GREATEST_VALUE ?c_LONGEST_SPAN ?c_LONGEST_TEXT ?c_LONGEST_WORD ?c_MOST_MATCHERS ?c_MOST_NAMES ?c_MOST_OPERATORS ?c_MOST_SELECTORS ?c_MOST_VALUES ?c_BLANKS ?c_CHARACTERS ?c_DIGITS ?c_LETTERS ?c_QUOTE ?ua_AGGREGATE_WORDS ?ub_AGGREGATE_WORDS ?ua_ARITHMETIC_SIGNS ?ub_ARITHMETIC_SIGNS ?ua_JOINING_SIGNS ?ub_JOINING_SIGNS ?ua_OPERAND_ENDS ?ub_OPERAND_ENDS ?ua_OVER_WORDS ?ub_OVER_WORDS ?ua_SYMBOLS ?ub_SYMBOLS ?da_PARTS_TAKEN ?db_PARTS_TAKEN ?dc_PARTS_TAKEN ?dl_PARTS_TAKEN ?dv0_PARTS_TAKEN ?dv1_PARTS_TAKEN ?dm0_PARTS_TAKEN ?dm1_PARTS_TAKEN ?dm2_PARTS_TAKEN ?wa_Reader ?xq_wg_Reader ?xq_wh_Reader ?xq_wp_Reader ?ws_Reader ?xq_wm_Reader ?wk_Reader ?wa_Walk ?xq_wg_Walk ?xq_wh_Walk ?xq_wp_Walk ?ws_Walk ?xq_wm_Walk ?wk_Walk ?wn_Reader_at ?wn_Reader_found ?wn_Reader_marks ?wn_Walk_depth ?wn_Walk_in_range ?wn_Walk_state ?da_STRENGTHS ?db_STRENGTHS ?dl_STRENGTHS ?dc_STRENGTHS ?dv0_STRENGTHS ?dv1_STRENGTHS ?dv2_STRENGTHS ?dv3_STRENGTHS ?dv4_STRENGTHS ?dv5_STRENGTHS ?dv6_STRENGTHS ?dv7_STRENGTHS ?dv8_STRENGTHS ?dv9_STRENGTHS ?dv10_STRENGTHS ?dv11_STRENGTHS ?dm0_STRENGTHS ?dm1_STRENGTHS ?da_NEXT_STATES ?db_NEXT_STATES ?dc_NEXT_STATES ?dl_NEXT_STATES ?dv0_NEXT_STATES ?ta0_NEXT_STATES ?tb0_0_NEXT_STATES ?tb1_0_NEXT_STATES ?tb2_0_NEXT_STATES ?tb3_0_NEXT_STATES ?dv1_NEXT_STATES ?ta1_NEXT_STATES ?tb0_1_NEXT_STATES ?dv2_NEXT_STATES ?ta2_NEXT_STATES ?tb0_2_NEXT_STATES ?dv3_NEXT_STATES ?ta3_NEXT_STATES ?tb0_3_NEXT_STATES ?tb1_3_NEXT_STATES ?dv4_NEXT_STATES ?ta4_NEXT_STATES ?tb0_4_NEXT_STATES ?tb1_4_NEXT_STATES ?tb2_4_NEXT_STATES ?dv5_NEXT_STATES ?ta5_NEXT_STATES ?dv6_NEXT_STATES ?ta6_NEXT_STATES ?tb0_6_NEXT_STATES ?tb1_6_NEXT_STATES ?dv7_NEXT_STATES ?ta7_NEXT_STATES ?tb0_7_NEXT_STATES ?dv8_NEXT_STATES ?ta8_NEXT_STATES ?tb0_8_NEXT_STATES ?tb1_8_NEXT_STATES ?tb2_8_NEXT_STATES ?tb3_8_NEXT_STATES ?dv9_NEXT_STATES ?ta9_NEXT_STATES ?tb0_9_NEXT_STATES ?dv10_NEXT_STATES ?ta10_NEXT_STATES ?tb0_10_NEXT_STATES ?dv11_NEXT_STATES ?ta11_NEXT_STATES ?tb0_11_NEXT_STATES ?dv12_NEXT_STATES ?ta12_NEXT_STATES ?tb0_12_NEXT_STATES ?dv13_NEXT_STATES ?ta13_NEXT_STATES ?tb0_13_NEXT_STATES ?tb1_13_NEXT_STATES ?dv14_NEXT_STATES ?ta14_NEXT_STATES ?tb0_14_NEXT_STATES ?tb1_14_NEXT_STATES ?dv15_NEXT_STATES ?ta15_NEXT_STATES ?tb0_15_NEXT_STATES ?dv16_NEXT_STATES ?ta16_NEXT_STATES ?tb0_16_NEXT_STATES ?tb1_16_NEXT_STATES ?dv17_NEXT_STATES ?ta17_NEXT_STATES ?tb0_17_NEXT_STATES ?dv18_NEXT_STATES ?ta18_NEXT_STATES ?tb0_18_NEXT_STATES ?dv19_NEXT_STATES ?ta19_NEXT_STATES ?tb0_19_NEXT_STATES ?dv20_NEXT_STATES ?ta20_NEXT_STATES ?tb0_20_NEXT_STATES ?dv21_NEXT_STATES ?ta21_NEXT_STATES ?tb0_21_NEXT_STATES ?dv22_NEXT_STATES ?ta22_NEXT_STATES ?tb0_22_NEXT_STATES ?tb1_22_NEXT_STATES ?dv23_NEXT_STATES ?ta23_NEXT_STATES ?tb0_23_NEXT_STATES ?dv24_NEXT_STATES ?ta24_NEXT_STATES ?tb0_24_NEXT_STATES ?tb1_24_NEXT_STATES ?dv25_NEXT_STATES ?ta25_NEXT_STATES ?tb0_25_NEXT_STATES ?ya_BadSteps ?yL_BadSteps ?ys_BadSteps ?yn_BadSteps ?yi_BadSteps ?yt_BadSteps ?yl_BadSteps ?yc_BadSteps ?yk_BadSteps ?yK_BadSteps ?ye_BadSteps ?yT_BadSteps ?ya_BadExpression ?yL_BadExpression ?ys_BadExpression ?yn_BadExpression ?yi_BadExpression ?yt_BadExpression ?yl_BadExpression ?yc_BadExpression ?yk_BadExpression ?yK_BadExpression ?ye_BadExpression ?yT_BadExpression ?yh_BadExpression ?jg_BadExpression ?jh_BadExpression ?ja_BadExpression ?jm_BadExpression ?jd_BadExpression ?js_BadExpression (TT _ "is_large" _ _ ?r28 (DW.tab_in ?a28 ?l28 rfl ?m28 ?v28))
    (case wa_Reader => k_is); (case wa_Walk => k_is); (case a1 => k_is); (case l1 => k_is); (case c1 => k_is); (case k1 => k_is); (case a2 => k_is); (case l2 => k_is); (case c2 => k_is); (case k2 => k_is); (case a3 => k_is); (case l3 => k_is); (case c3 => k_is); (case k3 => k_is); (case a4 => k_is); (case l4 => k_is); (case c4 => k_is); (case k4 => k_is); (case a5 => k_is); (case l5 => k_is); (case c5 => k_is); (case k5 => k_is); (case a6 => k_is); (case l6 => k_is); (case c6 => k_is); (case k6 => k_is); (case a7 => k_is); (case l7 => k_is); (case c7 => k_is); (case k7 => k_is); (case a8 => k_is); (case l8 => k_is); (case c8 => k_is); (case k8 => k_is); (case a9 => k_is); (case l9 => k_is); (case c9 => k_is); (case k9 => k_is); (case a10 => k_is); (case l10 => k_is); (case c10 => k_is); (case k10 => k_is); (case xq_f10 => first | kernel_rfl | rfl | k_is); (case a11 => k_is); (case l11 => k_is); (case c11 => k_is); (case k11 => k_is); (case xq_f11 => first | kernel_rfl | rfl | k_is); (case a12 => k_is); (case l12 => k_is); (case c12 => k_is); (case k12 => k_is); (case xq_f12 => first | kernel_rfl | rfl | k_is); (case a13 => k_is); (case l13 => k_is); (case c13 => k_is); (case k13 => k_is); (case a14 => k_is); (case l14 => k_is); (case c14 => k_is); (case k14 => k_is); (case xq_f14 => first | kernel_rfl | rfl | k_is); (case a15 => k_is); (case l15 => k_is); (case c15 => k_is); (case k15 => k_is); (case xq_f15 => first | kernel_rfl | rfl | k_is); (case a16 => k_is); (case l16 => k_is); (case c16 => k_is); (case k16 => k_is); (case a17 => k_is); (case l17 => k_is); (case c17 => k_is); (case k17 => k_is); (case a18 => k_is); (case l18 => k_is); (case c18 => k_is); (case k18 => k_is); (case xq_f18 => first | kernel_rfl | rfl | k_is); (case a19 => k_is); (case l19 => k_is); (case c19 => k_is); (case k19 => k_is); (case xq_f19 => first | kernel_rfl | rfl | k_is); (case a20 => k_is); (case l20 => k_is); (case c20 => k_is); (case k20 => k_is); (case xq_f20 => first | kernel_rfl | rfl | k_is); (case a21 => k_is); (case l21 => k_is); (case c21 => k_is); (case k21 => k_is); (case xq_f21 => first | kernel_rfl | rfl | k_is); (case a22 => k_is); (case l22 => k_is); (case c22 => k_is); (case k22 => k_is); (case xq_f22 => first | kernel_rfl | rfl | k_is); (case a23 => k_is); (case l23 => k_is); (case c23 => k_is); (case k23 => k_is); (case xq_f23 => first | kernel_rfl | rfl | k_is); (case a24 => k_is); (case l24 => k_is); (case c24 => k_is); (case k24 => k_is); (case xq_f24 => first | kernel_rfl | rfl | k_is); (case a25 => k_is); (case l25 => k_is); (case c25 => k_is); (case k25 => k_is); (case xq_f25 => first | kernel_rfl | rfl | k_is); (case a26 => k_is); (case l26 => k_is); (case c26 => k_is); (case k26 => k_is); (case xq_f26 => first | kernel_rfl | rfl | k_is); (case a27 => k_is); (case l27 => k_is); (case c27 => k_is); (case k27 => k_is); (case xq_f27 => first | kernel_rfl | rfl | k_is); (case a28 => k_is); (case l28 => k_is); (case c28 => k_is); (case k28 => k_is); (case a29 => k_is); (case l29 => k_is); (case c29 => k_is); (case k29 => k_is); (case a30 => k_is); (case l30 => k_is); (case c30 => k_is); (case k30 => k_is); (case a31 => k_is); (case l31 => k_is); (case c31 => k_is); (case k31 => k_is); (case a32 => k_is); (case l32 => k_is); (case c32 => k_is); (case k32 => k_is); (case a33 => k_is); (case l33 => k_is); (case c33 => k_is); (case k33 => k_is); (case a34 => k_is); (case l34 => k_is); (case c34 => k_is); (case k34 => k_is); (case a35 => k_is); (case l35 => k_is); (case c35 => k_is); (case k35 => k_is); (case a36 => k_is); (case l36 => k_is); (case c36 => k_is); (case k36 => k_is); (case a37 => k_is); (case l37 => k_is); (case c37 => k_is); (case k37 => k_is); (case a38 => k_is); (case l38 => k_is); (case c38 => k_is); (case k38 => k_is); (case a39 => k_is); (case l39 => k_is); (case c39 => k_is); (case k39 => k_is); (case m28 => k_is); (case v28 => first | rfl | k_is); (case n28 => first | rfl | kernel_rfl); (case z1 => k_is); (case z2 => k_is); (case z3 => k_is); (case z4 => k_is); (case z5 => k_is); (case z6 => k_is); (case z7 => k_is); (case z8 => k_is); (case z9 => k_is); (case z10 => k_is); (case z11 => k_is); (case z12 => k_is); (case z13 => k_is); (case z14 => k_is); (case z15 => k_is); (case z16 => k_is); (case z17 => k_is); (case z18 => k_is); (case z19 => k_is); (case z20 => k_is); (case c_DEEPEST => k_is); (case c_GREATEST_VALUE => k_is); (case c_LONGEST_SPAN => k_is); (case c_LONGEST_TEXT => k_is); (case c_LONGEST_WORD => k_is); (case c_MOST_MATCHERS => k_is); (case c_MOST_NAMES => k_is); (case c_MOST_OPERATORS => k_is); (case c_MOST_SELECTORS => k_is); (case c_MOST_VALUES => k_is); (case c_BLANKS => k_is); (case c_CHARACTERS => k_is); (case c_DIGITS => k_is); (case c_LETTERS => k_is); (case c_QUOTE => k_is); (case ua_AGGREGATE_WORDS => k_is); (case ub_AGGREGATE_WORDS => k_is); (case ua_ARITHMETIC_SIGNS => k_is); (case ub_ARITHMETIC_SIGNS => k_is); (case ua_JOINING_SIGNS => k_is); (case ub_JOINING_SIGNS => k_is); (case ua_OPERAND_ENDS => k_is); (case ub_OPERAND_ENDS => k_is); (case ua_OVER_WORDS => k_is); (case ub_OVER_WORDS => k_is); (case ua_SYMBOLS => k_is); (case ub_SYMBOLS => k_is); (case da_PARTS_TAKEN => k_is); (case db_PARTS_TAKEN => k_is); (case dc_PARTS_TAKEN => ((repeat refine ⟨⟨_, _, rfl, rfl⟩, ?_⟩); trivial)); (case dl_PARTS_TAKEN => first | rfl | decide | kernel_rfl); (case dv0_PARTS_TAKEN => k_is); (case dv1_PARTS_TAKEN => k_is); (case dm0_PARTS_TAKEN => k_is); (case dm1_PARTS_TAKEN => k_is); (case dm2_PARTS_TAKEN => k_is); (case xq_wg_Reader => first | kernel_rfl | rfl | k_is); (case xq_wh_Reader => first | kernel_rfl | rfl | k_is); (case xq_wp_Reader => first | kernel_rfl | rfl | k_is); (case ws_Reader => k_is); (case xq_wm_Reader => first | kernel_rfl | rfl | k_is); (case wk_Reader => k_is); (case xq_wg_Walk => first | kernel_rfl | rfl | k_is); (case xq_wh_Walk => first | kernel_rfl | rfl | k_is); (case xq_wp_Walk => first | kernel_rfl | rfl | k_is); (case ws_Walk => k_is); (case xq_wm_Walk => first | kernel_rfl | rfl | k_is); (case wk_Walk => k_is); (case wn_Reader_at => k_is); (case wn_Reader_found => k_is); (case wn_Reader_marks => k_is); (case wn_Walk_depth => k_is); (case wn_Walk_in_range => k_is); (case wn_Walk_state => k_is); (case da_STRENGTHS => k_is); (case db_STRENGTHS => k_is); (case dl_STRENGTHS => first | rfl | decide | kernel_rfl); (case dc_STRENGTHS => ((repeat refine ⟨⟨_, _, rfl, rfl⟩, ?_⟩); trivial)); (case dv0_STRENGTHS => k_is); (case dv1_STRENGTHS => k_is); (case dv2_STRENGTHS => k_is); (case dv3_STRENGTHS => k_is); (case dv4_STRENGTHS => k_is); (case dv5_STRENGTHS => k_is); (case dv6_STRENGTHS => k_is); (case dv7_STRENGTHS => k_is); (case dv8_STRENGTHS => k_is); (case dv9_STRENGTHS => k_is); (case dv10_STRENGTHS => k_is); (case dv11_STRENGTHS => k_is); (case dm0_STRENGTHS => k_is); (case dm1_STRENGTHS => k_is); (case da_NEXT_STATES => k_is); (case db_NEXT_STATES => k_is); (case dc_NEXT_STATES => ((repeat refine ⟨⟨_, _, rfl, rfl⟩, ?_⟩); trivial)); (case dl_NEXT_STATES => first | rfl | decide | kernel_rfl); (case dv0_NEXT_STATES => k_is); (case ta0_NEXT_STATES => k_is); (case tb0_0_NEXT_STATES => k_is); (case tb1_0_NEXT_STATES => k_is); (case tb2_0_NEXT_STATES => k_is); (case tb3_0_NEXT_STATES => k_is); (case dv1_NEXT_STATES => k_is); (case ta1_NEXT_STATES => k_is); (case tb0_1_NEXT_STATES => k_is); (case dv2_NEXT_STATES => k_is); (case ta2_NEXT_STATES => k_is); (case tb0_2_NEXT_STATES => k_is); (case dv3_NEXT_STATES => k_is); (case ta3_NEXT_STATES => k_is); (case tb0_3_NEXT_STATES => k_is); (case tb1_3_NEXT_STATES => k_is); (case dv4_NEXT_STATES => k_is); (case ta4_NEXT_STATES => k_is); (case tb0_4_NEXT_STATES => k_is); (case tb1_4_NEXT_STATES => k_is); (case tb2_4_NEXT_STATES => k_is); (case dv5_NEXT_STATES => k_is); (case ta5_NEXT_STATES => k_is); (case dv6_NEXT_STATES => k_is); (case ta6_NEXT_STATES => k_is); (case tb0_6_NEXT_STATES => k_is); (case tb1_6_NEXT_STATES => k_is); (case dv7_NEXT_STATES => k_is); (case ta7_NEXT_STATES => k_is); (case tb0_7_NEXT_STATES => k_is); (case dv8_NEXT_STATES => k_is); (case ta8_NEXT_STATES => k_is); (case tb0_8_NEXT_STATES => k_is); (case tb1_8_NEXT_STATES => k_is); (case tb2_8_NEXT_STATES => k_is); (case tb3_8_NEXT_STATES => k_is); (case dv9_NEXT_STATES => k_is); (case ta9_NEXT_STATES => k_is); (case tb0_9_NEXT_STATES => k_is); (case dv10_NEXT_STATES => k_is); (case ta10_NEXT_STATES => k_is); (case tb0_10_NEXT_STATES => k_is); (case dv11_NEXT_STATES => k_is); (case ta11_NEXT_STATES => k_is); (case tb0_11_NEXT_STATES => k_is); (case dv12_NEXT_STATES => k_is); (case ta12_NEXT_STATES => k_is); (case tb0_12_NEXT_STATES => k_is); (case dv13_NEXT_STATES => k_is); (case ta13_NEXT_STATES => k_is); (case tb0_13_NEXT_STATES => k_is); (case tb1_13_NEXT_STATES => k_is); (case dv14_NEXT_STATES => k_is); (case ta14_NEXT_STATES => k_is); (case tb0_14_NEXT_STATES => k_is); (case tb1_14_NEXT_STATES => k_is); (case dv15_NEXT_STATES => k_is); (case ta15_NEXT_STATES => k_is); (case tb0_15_NEXT_STATES => k_is); (case dv16_NEXT_STATES => k_is); (case ta16_NEXT_STATES => k_is); (case tb0_16_NEXT_STATES => k_is); (case tb1_16_NEXT_STATES => k_is); (case dv17_NEXT_STATES => k_is); (case ta17_NEXT_STATES => k_is); (case tb0_17_NEXT_STATES => k_is); (case dv18_NEXT_STATES => k_is); (case ta18_NEXT_STATES => k_is); (case tb0_18_NEXT_STATES => k_is); (case dv19_NEXT_STATES => k_is); (case ta19_NEXT_STATES => k_is); (case tb0_19_NEXT_STATES => k_is); (case dv20_NEXT_STATES => k_is); (case ta20_NEXT_STATES => k_is); (case tb0_20_NEXT_STATES => k_is); (case dv21_NEXT_STATES => k_is); (case ta21_NEXT_STATES => k_is); (case tb0_21_NEXT_STATES => k_is); (case dv22_NEXT_STATES => k_is); (case ta22_NEXT_STATES => k_is); (case tb0_22_NEXT_STATES => k_is); (case tb1_22_NEXT_STATES => k_is); (case dv23_NEXT_STATES => k_is); (case ta23_NEXT_STATES => k_is); (case tb0_23_NEXT_STATES => k_is); (case dv24_NEXT_STATES => k_is); (case ta24_NEXT_STATES => k_is); (case tb0_24_NEXT_STATES => k_is); (case tb1_24_NEXT_STATES => k_is); (case dv25_NEXT_STATES => k_is); (case ta25_NEXT_STATES => k_is); (case tb0_25_NEXT_STATES => k_is); (case ya_BadSteps => k_is); (case yL_BadSteps => k_is); (case ys_BadSteps => k_is); (case yn_BadSteps => k_is); (case yi_BadSteps => k_is); (case yt_BadSteps => k_is); (case yl_BadSteps => k_is); (case yc_BadSteps => k_is); (case yk_BadSteps => k_is); (case yK_BadSteps => k_is); (case ye_BadSteps => k_is); (case yT_BadSteps => k_is); (case ya_BadExpression => k_is); (case yL_BadExpression => k_is); (case ys_BadExpression => k_is); (case yn_BadExpression => k_is); (case yi_BadExpression => k_is); (case yt_BadExpression => k_is); (case yl_BadExpression => k_is); (case yc_BadExpression => k_is); (case yk_BadExpression => k_is); (case yK_BadExpression => k_is); (case ye_BadExpression => k_is); (case yT_BadExpression => k_is); (case yh_BadExpression => k_is); (case jg_BadExpression => k_is); (case jh_BadExpression => k_is); (case ja_BadExpression => k_is); (case jm_BadExpression => k_is); (case jd_BadExpression => k_is); (case js_BadExpression => k_is)
    (case r28 => first | rfl | k_is | decide)
